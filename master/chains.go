package master

import (
	"iter"
	"slices"

	"sealchain/api"
)

// late yields the replicas of the group that are, increasing.
func (m *Master) late() iter.Seq[int] {
	return func(yield func(int) bool) {
		for i := range m.replicas {
			if m.heard[i] >= m.limit && !yield(api.Replica0+i) {
				return
			}
		}
	}
}

// usable are the replicas of the group that are not late, increasing.
func (m *Master) usable() []int {
	var all []int
	for i := range m.replicas {
		all = append(all, api.Replica0+i)
	}
	for node := range m.late() {
		all = slices.DeleteFunc(all, func(n int) bool { return n == node })
	}
	return all
}

func (m *Master) isReady(node int) bool { return m.ready[node-api.Replica0] }

// better is the wanted chain: those that are ready come first, new ones last.
func (m *Master) better() api.Config {
	usable := m.usable()
	c := api.Config{Num: m.conf.Num + 1}
	var others []int
	for _, node := range m.conf.Chain {
		switch {
		case !slices.Contains(usable, node):
		case m.isReady(node):
			c.Chain = append(c.Chain, node)
		default:
			others = append(others, node)
		}
	}
	c.Full = len(c.Chain)
	c.Chain = append(c.Chain, others...)
	for _, node := range usable {
		if len(c.Chain) < m.wished && !slices.Contains(m.conf.Chain, node) {
			c.Chain = append(c.Chain, node)
		}
	}
	return c
}

// wants tells whether the wanted chain is one that can be, and another one.
func (m *Master) wants() bool {
	c := m.better()
	return c.Full > 0 && !slices.Equal(c.Chain, m.conf.Chain) && c.Num < api.MaxNumber
}

// adopt lets a configuration be the one that it knows.
func (m *Master) adopt(c api.Config) {
	m.conf = copied(c)
	m.ready = [api.MaxReplicas]bool{}
	for i, node := range c.Chain {
		m.heard[node-api.Replica0] = 0
		m.ready[node-api.Replica0] = i < c.Full
	}
	m.wanted = 0
}

// voted tells whether its voter has a vote for exactly this configuration.
func (m *Master) voted(c api.Config) bool {
	for _, v := range m.voter.Votes() {
		if v.Conf.Num == c.Num && v.Conf.Full == c.Full && slices.Equal(v.Conf.Chain, c.Chain) {
			return true
		}
	}
	return false
}

// learn lets it know a chosen configuration, once its voter does: so it still knows it after a restart.
func (m *Master) learn(c api.Config) bool {
	if c.Num <= m.conf.Num {
		return false
	}
	if !m.voted(c) {
		if is, e := m.voter.Accept(max(m.voter.Promised(), 1), c); !is || e != api.OK {
			return false
		}
	}
	if m.voter.Forget(c.Num) != api.OK {
		return false
	}
	m.adopt(c)
	return true
}

// others are packets to both other masters.
func (m *Master) others(p api.Packet) []api.Packet {
	var out []api.Packet
	for id := range api.MaxMasters {
		if id != m.id {
			out = append(out, m.to(id, p))
		}
	}
	return out
}

// to is a packet to a node.
func (m *Master) to(node int, p api.Packet) api.Packet {
	p.From, p.To = m.id, node
	p.Conf = copied(p.Conf)
	return p
}

// told is a packet that tells a node the configuration.
func (m *Master) told(node int) api.Packet {
	return m.to(node, api.Packet{Kind: api.PkConf, Conf: m.conf})
}

// prepare asks both others for promises.
func (m *Master) prepare() []api.Packet {
	return m.others(api.Packet{Kind: api.PkPrep, Ballot: m.leader.Ballot(), Seq: m.leader.From()})
}

// accept asks both others for votes.
func (m *Master) accept(c api.Config) []api.Packet {
	return m.others(api.Packet{Kind: api.PkAcc, Ballot: m.leader.Ballot(), Seq: c.Num, Conf: c})
}

// start begins to ask.
func (m *Master) start() []api.Packet {
	next := m.conf.Num + 1
	ballot, e := m.leader.Start(max(m.seen, m.voter.Promised()), next)
	if e != api.OK {
		return nil
	}
	m.wanted = 0
	if votes, is, e := m.voter.Prepare(ballot, next); is && e == api.OK {
		m.leader.Promise(m.id, ballot, votes)
	}
	return m.prepare()
}

// propose proposes, if it may and there is something to propose.
func (m *Master) propose() []api.Packet {
	c := m.better()
	if _, bound := m.leader.Bound(c.Num); !bound && !m.wants() {
		return nil
	}
	c, e := m.leader.Propose(c)
	if e != api.OK {
		return nil
	}
	ballot := m.leader.Ballot()
	if is, e := m.voter.Accept(ballot, c); is && e == api.OK {
		m.leader.Yes(m.id, ballot, c.Num)
	}
	return m.accept(c)
}

// chosen lets all know what was chosen, if it can know it itself.
func (m *Master) chosen(c api.Config) []api.Packet {
	if !m.learn(c) {
		return nil
	}
	out := m.others(api.Packet{Kind: api.PkConf, Conf: m.conf})
	for i := range m.replicas {
		out = append(out, m.told(api.Replica0+i))
	}
	return out
}
