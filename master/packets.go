package master

import (
	"slices"

	"sealchain/api"
)

// effects are what the kinds of packets do; others do nothing.
func effects() map[int]func(m *Master, p api.Packet) []api.Packet {
	return map[int]func(m *Master, p api.Packet) []api.Packet{
		api.PkAsk:   (*Master).asked,
		api.PkAlive: (*Master).alive,
		api.PkConf:  (*Master).confirmed,
		api.PkPrep:  (*Master).prepared,
		api.PkAcc:   (*Master).proposed,
		api.PkProm:  (*Master).promised,
		api.PkYes:   (*Master).accepted,
		api.PkNo:    (*Master).refused,
	}
}

func (m *Master) asked(p api.Packet) []api.Packet {
	if isMaster(p.From) {
		return nil
	}
	return []api.Packet{m.told(p.From)}
}

func (m *Master) alive(p api.Packet) []api.Packet {
	i := p.From - api.Replica0
	if !isReplica(p.From) || i >= m.replicas {
		return nil
	}
	m.heard[i] = 0
	if p.Num == m.conf.Num && p.Ready && slices.Contains(m.conf.Chain, p.From) {
		m.ready[i] = true
	}
	if p.Num < m.conf.Num {
		return []api.Packet{m.told(p.From)}
	}
	return nil
}

func (m *Master) confirmed(p api.Packet) []api.Packet {
	if isMaster(p.From) && m.learn(p.Conf) {
		m.leader.No(m.leader.Ballot() + 1) // what it asks for is settled
	}
	return nil
}

// refusal is a packet with the greater ballot that was promised.
func (m *Master) refusal(node int) []api.Packet {
	return []api.Packet{m.to(node, api.Packet{Kind: api.PkNo, Ballot: m.voter.Promised()})}
}

func (m *Master) prepared(p api.Packet) []api.Packet {
	if !isMaster(p.From) {
		return nil
	}
	if p.Seq <= m.conf.Num {
		return []api.Packet{m.told(p.From)}
	}
	votes, is, e := m.voter.Prepare(p.Ballot, p.Seq)
	switch {
	case e != api.OK:
		return nil
	case !is:
		return m.refusal(p.From)
	}
	m.wanted = 0
	return []api.Packet{m.to(p.From, api.Packet{Kind: api.PkProm, Ballot: p.Ballot, Seq: p.Seq, Votes: votes})}
}

func (m *Master) proposed(p api.Packet) []api.Packet {
	if !isMaster(p.From) {
		return nil
	}
	if p.Seq <= m.conf.Num {
		return []api.Packet{m.told(p.From)}
	}
	if p.Conf.Num != p.Seq {
		return nil
	}
	is, e := m.voter.Accept(p.Ballot, p.Conf)
	switch {
	case e != api.OK:
		return nil
	case !is:
		return m.refusal(p.From)
	}
	return []api.Packet{m.to(p.From, api.Packet{Kind: api.PkYes, Ballot: p.Ballot, Seq: p.Seq})}
}

func (m *Master) promised(p api.Packet) []api.Packet {
	if !isMaster(p.From) || p.Ballot == 0 || p.Seq == 0 {
		return nil
	}
	m.leader.Promise(p.From, p.Ballot, p.Votes)
	return m.propose()
}

func (m *Master) accepted(p api.Packet) []api.Packet {
	if !isMaster(p.From) {
		return nil
	}
	c, _ := m.leader.Pending()
	if chosen, e := m.leader.Yes(p.From, p.Ballot, p.Seq); !chosen || e != api.OK {
		return nil
	}
	return m.chosen(c)
}

func (m *Master) refused(p api.Packet) []api.Packet {
	if isMaster(p.From) {
		m.seen = max(m.seen, p.Ballot)
		m.leader.No(p.Ballot)
	}
	return nil
}
