package chain

import (
	"slices"

	"sealchain/api"
	"sealchain/table"
)

// effects are what the kinds of packets do; others do nothing.
func effects() map[int]func(r *Replica, p api.Packet) []api.Packet {
	return map[int]func(r *Replica, p api.Packet) []api.Packet{
		api.PkConf:  (*Replica).configured,
		api.PkReq:   (*Replica).requested,
		api.PkPut:   (*Replica).put,
		api.PkAck:   (*Replica).acknowledged,
		api.PkHave:  (*Replica).asked,
		api.PkState: (*Replica).given,
	}
}

func (r *Replica) inChain() bool { return slices.Contains(r.conf.Chain, r.id) }

// place finds the nodes of the chain that are so many places behind it.
func (r *Replica) place() func(step int) (node int, is bool) {
	at := slices.Index(r.conf.Chain, r.id)
	return func(step int) (int, bool) {
		i := at + step
		if at < 0 || i < 0 || i >= len(r.conf.Chain) {
			return 0, false
		}
		return r.conf.Chain[i], true
	}
}

func (r *Replica) predecessor() (int, bool) { return r.place()(-1) }

func (r *Replica) successor() (int, bool) { return r.place()(1) }

func (r *Replica) isHead() bool { return r.inChain() && r.conf.Chain[0] == r.id }

func (r *Replica) isTail() bool { return r.inChain() && r.conf.Chain[len(r.conf.Chain)-1] == r.id }

// isFrom tells whether a packet of this configuration comes from a neighbour.
func (r *Replica) isFrom(p api.Packet, neighbour func() (int, bool)) bool {
	node, is := neighbour()
	return is && p.From == node && p.Num == r.conf.Num
}

// to is a packet of this configuration to a node.
func (r *Replica) to(node int, p api.Packet) api.Packet {
	p.From, p.To, p.Num = r.id, node, r.conf.Num
	return p
}

// ack is a packet that tells the predecessor up to where all have the entries, if there is one.
func (r *Replica) ack() []api.Packet {
	node, is := r.predecessor()
	if !is {
		return nil
	}
	return []api.Packet{r.to(node, api.Packet{Kind: api.PkAck, Seq: r.state.acked})}
}

// report tells the predecessor what it has.
func (r *Replica) report() []api.Packet {
	var out []api.Packet
	if node, is := r.predecessor(); is {
		seq := -1
		if r.state.has {
			seq = r.state.last()
		}
		out = append(out, r.to(node, api.Packet{Kind: api.PkHave, Seq: seq}))
	}
	if r.isTail() && r.state.has {
		r.state.acked = r.state.last()
		out = append(out, r.ack()...)
	}
	return out
}

// appended orders a request behind the others, once it is durable.
func (r *Replica) appended(q api.Req) []api.Packet {
	if r.state.last() >= mostEntry {
		return nil
	}
	row, e := entryRow(r.state.last()+1, q)
	if e != api.OK || r.log.Add(row) != api.OK {
		return nil
	}
	a, e := r.state.execute(q)
	if e != api.OK {
		return nil
	}
	if node, is := r.successor(); is {
		return []api.Packet{r.to(node, api.Packet{Kind: api.PkPut, Seq: r.state.last(), Req: copiedReq(q)})}
	}
	r.state.acked = r.state.last()
	answer := api.Packet{Kind: api.PkAns, From: r.id, To: api.Client0 + q.Client, Ans: a}
	return append([]api.Packet{answer}, r.ack()...)
}

func (r *Replica) configured(p api.Packet) []api.Packet {
	if p.From >= api.MaxMasters || p.Conf.Num <= r.conf.Num {
		return nil
	}
	row, e := confRow(p.Conf)
	if e != api.OK || r.log.Add(row) != api.OK {
		return nil
	}
	r.adopt(p.Conf)
	if !r.inChain() {
		return nil
	}
	return r.report()
}

func (r *Replica) requested(p api.Packet) []api.Packet {
	s := &r.state
	if p.From != api.Client0+p.Req.Client || !r.isHead() || !s.has || s.last()-s.acked >= mostOpen || table.Check(p.Req) != api.OK {
		return nil
	}
	return r.appended(p.Req)
}

func (r *Replica) put(p api.Packet) []api.Packet {
	if !r.isFrom(p, r.predecessor) {
		return nil
	}
	switch next := r.state.last() + 1; {
	case !r.state.has || p.Seq > next:
		return r.report()
	case p.Seq < next:
		if r.isTail() {
			return r.report()
		}
	case table.Check(p.Req) == api.OK:
		return r.appended(p.Req)
	}
	return nil
}

func (r *Replica) acknowledged(p api.Packet) []api.Packet {
	if !r.isFrom(p, r.successor) || !r.state.has {
		return nil
	}
	r.state.acked = max(r.state.acked, min(p.Seq, r.state.last()))
	return r.ack()
}

func (r *Replica) asked(p api.Packet) []api.Packet {
	s := &r.state
	if !r.isFrom(p, r.successor) || !s.has {
		return nil
	}
	if p.Seq < s.base {
		return []api.Packet{r.to(p.From, api.Packet{Kind: api.PkState, Seq: s.last(), Bytes: s.Bytes()})}
	}
	var out []api.Packet
	for i, q := range s.entries {
		if n := s.base + 1 + i; n > p.Seq {
			out = append(out, r.to(p.From, api.Packet{Kind: api.PkPut, Seq: n, Req: copiedReq(q)}))
		}
	}
	return out
}

func (r *Replica) given(p api.Packet) []api.Packet {
	if !r.isFrom(p, r.predecessor) || r.state.has && p.Seq <= r.state.last() {
		return nil
	}
	t, e := table.Open(p.Bytes)
	if e != api.OK || !r.snapshot(t, p.Seq) {
		return nil
	}
	return r.report()
}
