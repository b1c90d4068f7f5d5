package world

import (
	"slices"

	"sealchain/api"
	"sealchain/pack"
)

// memory is the requests that a replica has executed, by numbers: more than it still has itself.
type memory map[int]api.Req

// until is a memory up to a number.
func (m memory) until(last int) memory {
	out := memory{}
	for n, q := range m {
		if n <= last {
			out[n] = q
		}
	}
	return out
}

// sight is what can be seen of a node: whatever a server writes changes it.
type sight struct {
	synced, conf, base, last int
	has                      bool
}

func (w *World) look(id int) sight {
	var s sight
	if x, is := w.part(id); is {
		s.synced = x.storage().Synced()
	}
	if m, is := w.master(id); is && m.up {
		s.conf = m.node.Conf().Num
	}
	if m, is := w.replica(id); is && m.up {
		r := m.node
		s.conf, s.base, s.last, s.has = r.Conf().Num, r.Base(), r.Last(), r.Has()
	}
	return s
}

// addRow lets a packet be a row, if the node is a server.
func (w *World) addRow(id, kind int, p api.Packet) {
	if id >= api.Client0 {
		return
	}
	if b, e := pack.Bytes(p); e == api.OK {
		w.rows = append(w.rows, api.Row{Step: w.step, Node: id, Kind: kind, Bytes: b})
	}
}

// addWritten lets all that a server has written since be rows.
func (w *World) addWritten(id int) {
	x, is := w.part(id)
	if !is || id >= api.Client0 {
		return
	}
	trace := x.storage().Trace()
	for _, b := range trace[w.traced[id]:] {
		w.rows = append(w.rows, api.Row{Step: w.step, Node: id, Kind: api.RowWrote, Bytes: b})
	}
	w.traced[id] = len(trace)
}

// after is what follows each call of a node: rows, memories, packets, results.
func (w *World) after(id int, before sight, came *parcel, out []api.Packet, e api.Errno) api.Errno {
	for _, p := range out {
		w.addRow(id, api.RowWent, p)
	}
	// A trace is long: it is asked for only if something was written.
	if e != api.OK || w.look(id) != before {
		w.addWritten(id)
	}
	w.remember(id, before, came, e)
	for _, p := range out {
		w.send(id, p)
	}
	w.settle(id, e)
	if id >= api.Replica0 && id < api.Client0 && e == api.OK {
		w.extend()
	}
	if e == api.ErrDown {
		return e
	}
	return api.OK
}

// send puts a packet into the net, if there is room.
func (w *World) send(id int, p api.Packet) {
	if w.net.Put(p) != api.OK {
		return
	}
	var note memory
	if p.Kind == api.PkState {
		note = w.memories[id].until(p.Seq)
	}
	w.notes = append(w.notes, note)
}

// remember notes the entries of a replica, and those before them if it continues from another one's state.
func (w *World) remember(id int, before sight, came *parcel, e api.Errno) {
	m, is := w.replica(id)
	if !is || e != api.OK {
		return
	}
	r := m.node
	if !r.Has() {
		w.memories[id] = nil
		return
	}
	known := w.memories[id]
	if came != nil && came.packet.Kind == api.PkState {
		seq := came.packet.Seq
		if r.Base() == seq && (!before.has || before.last < seq) {
			known = came.note.until(seq)
		}
	}
	if known == nil {
		known = memory{}
	}
	for i, q := range r.Entries() {
		known[r.Base()+1+i] = q
	}
	w.memories[id] = known
}

// extend lets the order have what the tails have.
func (w *World) extend() {
	for i, m := range w.replicas {
		id := api.Replica0 + i
		if !m.up || !m.node.Has() || !isTail(m.node.Conf(), id) {
			continue
		}
		for len(w.order) < m.node.Last() {
			q, is := w.memories[id][len(w.order)+1]
			if !is {
				break
			}
			w.order = append(w.order, q)
		}
	}
}

func isTail(c api.Config, id int) bool {
	return len(c.Chain) > 0 && c.Chain[len(c.Chain)-1] == id
}

// settle lets a node be down once it is, and takes a client's result.
func (w *World) settle(id int, e api.Errno) {
	if e == api.ErrDown {
		w.goDown(id)
		return
	}
	m, is := w.client(id - api.Client0)
	if !is {
		return
	}
	got, is := m.node.Done()
	h := w.open(id - api.Client0)
	if !is || h == nil {
		return
	}
	h.Code, h.End, h.First, h.Last, h.Version = got.Code, w.step, got.First, got.Last, got.Version
	if h.Kind == api.OpGet {
		h.Value, h.Tomb = slices.Clone(got.Value), got.Tomb
	}
}

// open is the row of the operation that a client has not ended, if there is one.
func (w *World) open(client int) *api.Hist {
	for i := len(w.history) - 1; i >= 0; i-- {
		if h := &w.history[i]; h.Client == client {
			if h.End == 0 {
				return h
			}
			break
		}
	}
	return nil
}

// goDown loses the state of a node; what it has asked the chain may still be done.
func (w *World) goDown(id int) {
	if m, is := w.client(id - api.Client0); is && m.node.Busy() {
		if h := w.open(id - api.Client0); h != nil {
			h.First, h.Last = m.node.Nums()
		}
	}
	if x, is := w.part(id); is {
		x.stop()
	}
}
