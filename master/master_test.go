package master

import (
	"slices"
	"testing"

	"sealchain/api"
	"sealchain/disk"
	"sealchain/pack"
	"sealchain/vote"
	"sealchain/wal"
)

func conf(n, full int, chain ...int) api.Config {
	return api.Config{Num: n, Full: full, Chain: chain}
}

func same(c, d api.Config) bool {
	return c.Num == d.Num && c.Full == d.Full && slices.Equal(c.Chain, d.Chain)
}

func made(t *testing.T, id, replicas, wished, limit int, d *disk.Disk) *Master {
	t.Helper()
	m, e := New(id, replicas, wished, limit, d)
	if e != api.OK {
		t.Fatal(e)
	}
	return m
}

// expect compares what is sent.
func expect(t *testing.T, what string, out []api.Packet, e api.Errno, want ...api.Packet) {
	t.Helper()
	if e != api.OK || !slices.EqualFunc(out, want, pack.Same) {
		t.Errorf("%s: %d: %v, not %v", what, e, out, want)
	}
	for _, p := range out {
		if pack.Check(p) != api.OK {
			t.Errorf("%s: not valid: %v", what, p)
		}
	}
}

func alive(from, to, n int) api.Packet {
	return api.Packet{Kind: api.PkAlive, From: from, To: to, Num: n, Ready: true}
}

func confTo(from, to int, c api.Config) api.Packet {
	return api.Packet{Kind: api.PkConf, From: from, To: to, Conf: c}
}

// asking is master 0 of the chapter's examples, once it has asked for promises.
func asking(t *testing.T, d *disk.Disk) *Master {
	t.Helper()
	m := made(t, 0, 3, 2, 3, d)
	for range 2 {
		out, e := m.Tick()
		expect(t, "tick", out, e)
		for _, node := range []int{10, 12} {
			out, e = m.Handle(alive(node, 0, 0))
			expect(t, "alive", out, e)
		}
	}
	out, e := m.Tick()
	expect(t, "tick", out, e)
	if !slices.Equal(m.Late(), []int{11}) || m.Phase() != 0 {
		t.Error(m.Late(), m.Phase())
	}
	m.Handle(alive(10, 0, 0))
	m.Handle(alive(12, 0, 0))
	out, e = m.Tick()
	prep := api.Packet{Kind: api.PkPrep, Ballot: 3, Seq: 1}
	one, two := prep, prep
	one.To, two.To = 1, 2
	expect(t, "start", out, e, one, two)
	if m.Phase() != 1 || m.Promised() != 3 {
		t.Error(m.Phase(), m.Promised())
	}
	return m
}

// The chapter's examples.
func TestExamples(t *testing.T) {
	m := made(t, 0, 3, 2, 3, disk.New())
	if !same(m.Conf(), conf(0, 2, 10, 11)) || !slices.Equal(m.Ready(), []int{10, 11}) {
		t.Error(m.Conf(), m.Ready())
	}
	out, e := m.Handle(api.Packet{Kind: api.PkAsk, From: 20, To: 0})
	expect(t, "ask", out, e, confTo(0, 20, conf(0, 2, 10, 11)))
	m = asking(t, disk.New())
	out, e = m.Handle(api.Packet{Kind: api.PkProm, From: 2, Ballot: 3, Seq: 1})
	next := conf(1, 1, 10, 12)
	expect(t, "proposal", out, e,
		api.Packet{Kind: api.PkAcc, To: 1, Ballot: 3, Seq: 1, Conf: next},
		api.Packet{Kind: api.PkAcc, To: 2, Ballot: 3, Seq: 1, Conf: next})
	if m.Phase() != 2 {
		t.Error(m.Phase())
	}
	out, e = m.Handle(api.Packet{Kind: api.PkYes, From: 1, Ballot: 3, Seq: 1})
	expect(t, "chosen", out, e, confTo(0, 1, next), confTo(0, 2, next), confTo(0, 10, next), confTo(0, 11, next), confTo(0, 12, next))
	if !same(m.Conf(), next) || !slices.Equal(m.Ready(), []int{10}) {
		t.Error(m.Conf(), m.Ready())
	}
}

// Nil and zero masters.
func TestNone(t *testing.T) {
	for _, m := range []*Master{nil, {}} {
		if out, e := m.Handle(api.Packet{}); out != nil || e != api.ErrNil {
			t.Error(e)
		}
		if out, e := m.Tick(); out != nil || e != api.ErrNil {
			t.Error(e)
		}
		if !same(m.Conf(), api.Config{}) || m.Ready() != nil || m.Late() != nil || m.Phase() != 0 || m.Promised() != 0 || m.Down() {
			t.Error("is something")
		}
	}
}

// P17.1: New and First.
func TestNew(t *testing.T) {
	for i, c := range [][4]int{{-1, 1, 1, 1}, {3, 1, 1, 1}, {0, 0, 1, 1}, {0, 5, 1, 1}, {0, 2, 0, 1}, {0, 2, 3, 1}, {0, 1, 1, 0}, {0, 1, 1, 1001}} {
		if m, e := New(c[0], c[1], c[2], c[3], nil); m != nil || e != api.ErrArg {
			t.Error(i, e)
		}
	}
	if m, e := New(0, 1, 1, 1, nil); m != nil || e != api.ErrNil {
		t.Error(e)
	}
	spoilt := disk.New()
	l, _ := wal.Open(spoilt)
	l.Add([]byte{9})
	if m, e := New(0, 1, 1, 1, spoilt); m != nil || e != api.ErrSpoil {
		t.Error(e)
	}
	for n, want := range map[int]api.Config{-1: {}, 0: {}, 1: conf(0, 1, 10), 4: conf(0, 4, 10, 11, 12, 13), 5: {}} {
		if !same(First(n), want) {
			t.Error(n, First(n))
		}
	}
	d := disk.New()
	v, _ := vote.Open(d)
	v.Accept(4, conf(3, 1, 12, 10))
	v.Forget(3)
	v.Accept(5, conf(4, 1, 13))
	m := made(t, 1, 4, 2, 1000, d)
	if !same(m.Conf(), conf(3, 1, 12, 10)) || !slices.Equal(m.Ready(), []int{12}) || m.Promised() != 5 || len(m.Late()) != 0 || m.Down() {
		t.Error(m.Conf(), m.Ready(), m.Promised())
	}
}

// P17.2: packets that may not be, and those that have no effect.
func TestHandleInvalid(t *testing.T) {
	m := made(t, 0, 3, 2, 3, disk.New())
	for i, p := range []api.Packet{
		{},
		{Kind: api.PkAsk, From: 20, To: 1},
		{Kind: api.PkAsk, From: 0, To: 0},
		{Kind: api.PkAsk, From: 20, To: 0, Num: 1},
		{Kind: api.PkConf, From: 1, To: 0},
	} {
		if out, e := m.Handle(p); out != nil || e != api.ErrArg {
			t.Error(i, e)
		}
	}
	next := conf(1, 1, 12)
	for _, p := range []api.Packet{
		{Kind: api.PkAsk, From: 1},
		{Kind: api.PkAlive, From: 13, Ready: true},
		{Kind: api.PkAlive, From: 20, Ready: true},
		{Kind: api.PkConf, From: 10, Conf: next},
		{Kind: api.PkConf, From: 20, Conf: next},
		{Kind: api.PkConf, From: 1, Conf: conf(0, 1, 12)},
		{Kind: api.PkPrep, From: 10, Ballot: 4, Seq: 1},
		{Kind: api.PkPrep, From: 1, Ballot: 0, Seq: 1},
		{Kind: api.PkAcc, From: 10, Ballot: 4, Seq: 1, Conf: next},
		{Kind: api.PkAcc, From: 1, Ballot: 0, Seq: 1, Conf: next},
		{Kind: api.PkAcc, From: 1, Ballot: 4, Seq: 2, Conf: next},
		{Kind: api.PkProm, From: 1, Ballot: 0, Seq: 0},
		{Kind: api.PkYes, From: 1, Ballot: 0, Seq: 0},
		{Kind: api.PkNo, From: 10, Ballot: 90},
		{Kind: api.PkAck, From: 10},
		{Kind: api.PkState, From: 10},
		{Kind: api.PkReq, From: 20, Req: api.Req{Num: 1, Kind: api.ReqGet}},
	} {
		out, e := m.Handle(p)
		expect(t, "no effect", out, e)
	}
	if !same(m.Conf(), conf(0, 2, 10, 11)) || m.Promised() != 0 || m.Phase() != 0 {
		t.Error(m.Conf(), m.Promised())
	}
	out, e := m.Handle(api.Packet{Kind: api.PkAsk, From: 13})
	expect(t, "ask", out, e, confTo(0, 13, conf(0, 2, 10, 11)))
}

// P17.2: PkAlive.
func TestAlive(t *testing.T) {
	m := made(t, 0, 4, 2, 9, disk.New())
	m.Handle(confTo(1, 0, conf(5, 1, 12, 10, 13)))
	for i, c := range []struct {
		p    api.Packet
		out  []api.Packet
		want []int
	}{
		{alive(11, 0, 5), nil, []int{12}},
		{alive(10, 0, 4), []api.Packet{confTo(0, 10, conf(5, 1, 12, 10, 13))}, []int{12}},
		{alive(10, 0, 6), nil, []int{12}},
		{api.Packet{Kind: api.PkAlive, From: 10, Num: 5}, nil, []int{12}},
		{alive(10, 0, 5), nil, []int{10, 12}},
		{api.Packet{Kind: api.PkAlive, From: 10, Num: 5}, nil, []int{10, 12}},
	} {
		out, e := m.Handle(c.p)
		expect(t, "alive", out, e, c.out...)
		if !slices.Equal(m.Ready(), c.want) {
			t.Error(i, m.Ready())
		}
	}
}

// P17.2: PkPrep, PkAcc and what they are answered.
func TestVoter(t *testing.T) {
	m := made(t, 0, 3, 2, 3, disk.New())
	first := conf(0, 2, 10, 11)
	handle := func(p api.Packet, want ...api.Packet) {
		t.Helper()
		out, e := m.Handle(p)
		expect(t, "voter", out, e, want...)
	}
	handle(api.Packet{Kind: api.PkPrep, From: 2, Ballot: 0, Seq: 0}, confTo(0, 2, first))
	handle(api.Packet{Kind: api.PkAcc, From: 2, Ballot: 0, Seq: 0, Conf: conf(7, 1, 10)}, confTo(0, 2, first))
	handle(api.Packet{Kind: api.PkPrep, From: 2, Ballot: 5, Seq: 1}, api.Packet{Kind: api.PkProm, To: 2, Ballot: 5, Seq: 1})
	handle(api.Packet{Kind: api.PkPrep, From: 1, Ballot: 4, Seq: 1}, api.Packet{Kind: api.PkNo, To: 1, Ballot: 5})
	handle(api.Packet{Kind: api.PkAcc, From: 1, Ballot: 4, Seq: 1, Conf: conf(1, 1, 10)}, api.Packet{Kind: api.PkNo, To: 1, Ballot: 5})
	handle(api.Packet{Kind: api.PkAcc, From: 2, Ballot: 5, Seq: 1, Conf: conf(1, 1, 10)}, api.Packet{Kind: api.PkYes, To: 2, Ballot: 5, Seq: 1})
	handle(api.Packet{Kind: api.PkPrep, From: 1, Ballot: 7, Seq: 1},
		api.Packet{Kind: api.PkProm, To: 1, Ballot: 7, Seq: 1, Votes: []api.Vote{{Ballot: 5, Conf: conf(1, 1, 10)}}})
	for n := 2; n <= 8; n++ {
		handle(api.Packet{Kind: api.PkAcc, From: 1, Ballot: 7, Seq: n, Conf: conf(n, 1, 10)}, api.Packet{Kind: api.PkYes, To: 1, Ballot: 7, Seq: n})
	}
	handle(api.Packet{Kind: api.PkAcc, From: 1, Ballot: 7, Seq: 9, Conf: conf(9, 1, 10)})
	// A vote for another number has no room either: what can't be voted for is not learned.
	handle(confTo(1, 0, conf(9, 1, 11)))
	if m.Conf().Num != 0 {
		t.Error(m.Conf())
	}
	handle(confTo(1, 0, conf(3, 1, 10)))
	if !same(m.Conf(), conf(3, 1, 10)) {
		t.Error(m.Conf())
	}
}

// P17.2: PkNo and PkConf end what is asked for, and ballots go above those seen.
func TestNo(t *testing.T) {
	m := asking(t, disk.New())
	m.Handle(api.Packet{Kind: api.PkNo, From: 1, Ballot: 3})
	if m.Phase() != 1 {
		t.Error(m.Phase())
	}
	m.Handle(api.Packet{Kind: api.PkNo, From: 1, Ballot: 31})
	if m.Phase() != 0 {
		t.Error(m.Phase())
	}
	m.Tick()
	out, e := m.Tick()
	expect(t, "again", out, e)
	m.Handle(alive(10, 0, 0))
	m.Handle(alive(12, 0, 0))
	m.Tick()
	out, e = m.Tick()
	expect(t, "above", out, e, api.Packet{Kind: api.PkPrep, To: 1, Ballot: 33, Seq: 1}, api.Packet{Kind: api.PkPrep, To: 2, Ballot: 33, Seq: 1})
	m.Handle(confTo(2, 0, conf(1, 1, 10, 12)))
	if m.Phase() != 0 || m.Conf().Num != 1 {
		t.Error(m.Phase())
	}
}

// P17.2: what may be lost is sent again.
func TestRepeat(t *testing.T) {
	m := asking(t, disk.New())
	prep := func(to int) api.Packet { return api.Packet{Kind: api.PkPrep, To: to, Ballot: 3, Seq: 1} }
	out, e := m.Tick()
	expect(t, "prep", out, e, prep(1), prep(2))
	// After two more ticks it asks anew, behind the repetition.
	m.Handle(alive(10, 0, 0))
	m.Handle(alive(12, 0, 0))
	out, e = m.Tick()
	again := func(to int) api.Packet { return api.Packet{Kind: api.PkPrep, To: to, Ballot: 6, Seq: 1} }
	expect(t, "prep", out, e, prep(1), prep(2), again(1), again(2))
	m.Handle(api.Packet{Kind: api.PkProm, From: 1, Ballot: 6, Seq: 1, Votes: []api.Vote{{Ballot: 2, Conf: conf(1, 1, 13)}}})
	acc := func(to int) api.Packet {
		return api.Packet{Kind: api.PkAcc, To: to, Ballot: 6, Seq: 1, Conf: conf(1, 1, 13)}
	}
	out, e = m.Tick()
	expect(t, "acc", out, e, acc(1), acc(2))
	m.Handle(api.Packet{Kind: api.PkYes, From: 2, Ballot: 6, Seq: 1})
	if !same(m.Conf(), conf(1, 1, 13)) || m.Phase() != 2 {
		t.Error(m.Conf(), m.Phase())
	}
}

// P17.2: what learning starts anew, and what it writes.
func TestLearn(t *testing.T) {
	d := disk.New()
	m := made(t, 0, 3, 2, 3, d)
	m.Tick()
	m.Tick()
	m.Handle(confTo(1, 0, conf(4, 1, 12, 10)))
	if len(d.Trace()) != 2 || m.Promised() != 1 {
		t.Error("it votes for what it learns, and forgets the rest", len(d.Trace()), m.Promised())
	}
	m.Tick()
	if !slices.Equal(m.Late(), []int{11}) {
		t.Error(m.Late())
	}
	// With a vote for exactly that configuration there is nothing to vote for.
	m.Handle(api.Packet{Kind: api.PkAcc, From: 1, Ballot: 7, Seq: 5, Conf: conf(5, 1, 10, 11)})
	m.Handle(confTo(1, 0, conf(5, 1, 10, 11)))
	if len(d.Trace()) != 4 || m.Promised() != 7 || m.Conf().Num != 5 {
		t.Error(len(d.Trace()), m.Promised(), m.Conf())
	}
	for n, c := range []api.Config{conf(6, 1, 10, 11), conf(7, 2, 10, 12), conf(8, 1, 12, 10)} {
		m.Handle(api.Packet{Kind: api.PkAcc, From: 1, Ballot: 7, Seq: c.Num, Conf: conf(c.Num, 1, 10, 12)})
		before := len(d.Trace())
		m.Handle(confTo(1, 0, c))
		if len(d.Trace()) != before+2 || !same(m.Conf(), c) {
			t.Error(n, len(d.Trace())-before, m.Conf())
		}
	}
	// Whoever has forgotten more than it knows can't vote for what lies between.
	d = disk.New()
	v, _ := vote.Open(d)
	v.Forget(5)
	m = made(t, 0, 3, 2, 3, d)
	m.Handle(confTo(1, 0, conf(3, 1, 11)))
	if m.Conf().Num != 0 {
		t.Error(m.Conf())
	}
	// What is not learned leaves the leader as it is.
	m = asking(t, disk.New())
	m.Handle(confTo(1, 0, conf(0, 1, 11)))
	for n := 1; n <= 8; n++ {
		m.Handle(api.Packet{Kind: api.PkAcc, From: 1, Ballot: 4, Seq: n, Conf: conf(n, 1, 10)})
	}
	m.Handle(confTo(1, 0, conf(9, 1, 11)))
	if m.Conf().Num != 0 || m.Phase() != 1 {
		t.Error(m.Conf(), m.Phase())
	}
}

// P17.2: a replica that is not of the group, and other nodes, are not alive.
func TestNotAlive(t *testing.T) {
	m := made(t, 0, 3, 2, 3, disk.New())
	m.Handle(confTo(1, 0, conf(5, 1, 10, 13)))
	for _, from := range []int{1, 2, 13, 20, 22} {
		for _, n := range []int{0, 5} {
			out, e := m.Handle(alive(from, 0, n))
			expect(t, "not alive", out, e)
		}
	}
	if !slices.Equal(m.Ready(), []int{10}) {
		t.Error(m.Ready())
	}
}

// P17.2: for how long each master waits.
func TestPatience(t *testing.T) {
	for id := range 3 {
		m := made(t, id, 2, 2, 1000, disk.New())
		m.Handle(confTo((id+1)%3, id, conf(1, 1, 10)))
		ticks := 0
		for m.Phase() == 0 && ticks < 50 {
			m.Tick()
			ticks++
		}
		if ticks != 2+8*id {
			t.Error(id, ticks)
		}
	}
}

// wanting is master 0 that has another chain to want, as long as both replicas that it wants are heard.
func wanting(t *testing.T) *Master {
	t.Helper()
	m := made(t, 0, 3, 2, 9, disk.New())
	m.Handle(confTo(1, 0, conf(1, 1, 10)))
	if !m.wants() {
		t.Fatal("it wants nothing")
	}
	return m
}

// P17.2: wanting for long enough, without a break.
func TestWants(t *testing.T) {
	m := wanting(t)
	m.Tick()
	if m.Phase() != 0 {
		t.Error("too early")
	}
	m.Tick()
	if m.Phase() != 1 {
		t.Error("too late")
	}
	m = wanting(t)
	m.Tick()
	m.Handle(api.Packet{Kind: api.PkPrep, From: 1, Ballot: 4, Seq: 2})
	m.Tick()
	if m.Phase() != 0 {
		t.Error("it has promised another one")
	}
	m.Tick()
	if m.Phase() != 1 {
		t.Error("too late")
	}
	m = wanting(t)
	m.Tick()
	m.Handle(confTo(1, 0, conf(2, 1, 12)))
	m.Tick()
	if m.Phase() != 0 {
		t.Error("it has learned another one")
	}
}

// P17.2: it stops wanting, and begins anew.
func TestBreak(t *testing.T) {
	m := made(t, 0, 2, 2, 2, disk.New())
	tick := func(nodes ...int) {
		m.Tick()
		for _, node := range nodes {
			m.Handle(alive(node, 0, 0))
		}
	}
	tick(10)
	tick(10)     // 11 is late now
	tick(10, 11) // wanted for two ticks would start
	if m.Phase() == 0 {
		t.Fatal("it has not begun")
	}
	m = made(t, 0, 2, 2, 2, disk.New())
	tick(10)
	tick(10, 11) // wanted for one tick
	tick(10)     // not any more
	tick(10)     // wanted for one tick again
	if m.Phase() != 0 {
		t.Error("a break counts")
	}
}

// P17.2: a leader goes on to lead, and stale packets do nothing.
func TestLeads(t *testing.T) {
	lead := func() *Master {
		m := asking(t, disk.New())
		out, e := m.Handle(api.Packet{Kind: api.PkProm, From: 2, Ballot: 6, Seq: 1})
		expect(t, "a promise of another ballot", out, e)
		out, e = m.Handle(api.Packet{Kind: api.PkProm, From: 2, Ballot: 3, Seq: 0})
		expect(t, "a promise from 0 on", out, e)
		if m.Phase() != 1 {
			t.Error(m.Phase())
		}
		m.Handle(api.Packet{Kind: api.PkProm, From: 2, Ballot: 3, Seq: 1, Votes: []api.Vote{{Ballot: 1, Conf: conf(1, 1, 10)}}})
		m.Handle(api.Packet{Kind: api.PkYes, From: 1, Ballot: 3, Seq: 1})
		if m.Phase() != 2 || !same(m.Conf(), conf(1, 1, 10)) || !m.wants() {
			t.Fatal(m.Conf(), m.Phase())
		}
		return m
	}
	acc := func(to int, c api.Config) api.Packet {
		return api.Packet{Kind: api.PkAcc, To: to, Ballot: 3, Seq: 2, Conf: c}
	}
	m := lead()
	for _, p := range []api.Packet{
		{Kind: api.PkProm, From: 1, Ballot: 0, Seq: 1},
		{Kind: api.PkProm, From: 1, Ballot: 3, Seq: 0},
		{Kind: api.PkProm, From: 10, Ballot: 3, Seq: 1},
		{Kind: api.PkYes, From: 2, Ballot: 3, Seq: 1},
		{Kind: api.PkYes, From: 10, Ballot: 3, Seq: 1},
	} {
		out, e := m.Handle(p)
		expect(t, "stale", out, e)
	}
	next := conf(2, 1, 10, 12)
	out, e := m.Handle(api.Packet{Kind: api.PkProm, From: 1, Ballot: 3, Seq: 1})
	expect(t, "another promise", out, e, acc(1, next), acc(2, next))
	m = lead()
	out, e = m.Tick()
	expect(t, "a tick", out, e, acc(1, next), acc(2, next))
	out, e = m.Tick()
	expect(t, "a tick", out, e, acc(1, next), acc(2, next))
	if m.Phase() != 2 {
		t.Error("who leads does not start")
	}
}

// P17.2: no ballot is left.
func TestNoBallot(t *testing.T) {
	m := wanting(t)
	m.Handle(api.Packet{Kind: api.PkNo, From: 1, Ballot: api.MaxNumber})
	for range 8 {
		out, e := m.Tick()
		expect(t, "no ballot", out, e)
	}
	if m.Phase() != 0 || m.wanted != 8 {
		t.Error(m.Phase(), m.wanted)
	}
}

// P17.3: the wanted chain, from what is ready and late.
func TestWanted(t *testing.T) {
	m := made(t, 0, 4, 3, 2, disk.New())
	m.Handle(confTo(1, 0, conf(5, 1, 12, 10)))
	if !same(m.better(), conf(6, 1, 12, 10, 11)) || !m.wants() {
		t.Error(m.better())
	}
	m.Handle(alive(10, 0, 5))
	if !same(m.better(), conf(6, 2, 12, 10, 11)) {
		t.Error(m.better())
	}
	m.Tick()
	m.Tick()
	if m.wants() || !slices.Equal(m.Late(), []int{10, 11, 12, 13}) {
		t.Error(m.Late())
	}
	m.Handle(alive(10, 0, 5))
	m.Handle(alive(13, 0, 0))
	if !same(m.better(), conf(6, 1, 10, 13)) || !m.wants() || !slices.Equal(m.Late(), []int{11, 12}) {
		t.Error(m.better(), m.Late())
	}
	m = made(t, 0, 4, 4, 2, disk.New())
	m.Handle(confTo(1, 0, conf(api.MaxNumber-1, 1, 12, 10)))
	if m.Conf().Num != api.MaxNumber-1 || m.wants() {
		t.Error("no number is left")
	}
	m = made(t, 0, 2, 1, 2, disk.New())
	m.Handle(confTo(1, 0, conf(1, 2, 13, 11)))
	if !same(m.better(), conf(2, 1, 11)) {
		t.Error("not of the group", m.better())
	}
}

// P17.2, P17.3: a disk that fails.
func TestDown(t *testing.T) {
	prep := api.Packet{Kind: api.PkPrep, From: 2, Ballot: 5, Seq: 1}
	d := disk.New()
	m := made(t, 0, 3, 2, 3, d)
	d.Arm(0)
	if out, e := m.Handle(prep); out != nil || e != api.ErrDown || !m.Down() {
		t.Error(e)
	}
	if out, e := m.Handle(api.Packet{}); out != nil || e != api.ErrDown {
		t.Error(e)
	}
	if out, e := m.Tick(); out != nil || e != api.ErrDown {
		t.Error(e)
	}
	d = disk.New()
	m = made(t, 0, 3, 2, 1, d)
	m.Tick()
	m.Handle(alive(10, 0, 0))
	m.Handle(alive(11, 0, 0))
	d.Arm(0)
	for range 3 {
		m.Handle(alive(10, 0, 0))
		if out, e := m.Tick(); e != api.OK && (e != api.ErrDown || out != nil || !m.Down()) {
			t.Error(e)
		}
	}
}

// P17.4: memory.
func TestMemory(t *testing.T) {
	m := made(t, 0, 3, 2, 3, disk.New())
	c := conf(4, 1, 10, 11)
	m.Handle(confTo(1, 0, c))
	c.Chain[0] = 13
	m.Conf().Chain[0] = 13
	out, _ := m.Handle(api.Packet{Kind: api.PkAsk, From: 20})
	out[0].Conf.Chain[0] = 13
	if !same(m.Conf(), conf(4, 1, 10, 11)) {
		t.Error(m.Conf())
	}
}

// group is three masters whose packets are lost, doubled and late, and whose disks fail.
type group struct {
	t       *testing.T
	seed    uint32
	disks   [3]*disk.Disk
	masters [3]*Master
	bag     []api.Packet
	known   map[int]api.Config
	ready   map[int]map[int]bool // which replicas were ready at someone who knew a number
}

func (g *group) next(n int) int {
	g.seed = g.seed*1664525 + 1013904223
	return int(g.seed>>8) % n
}

// check holds what a master knows against what any has known.
func (g *group) check(id, before int) {
	m := g.masters[id]
	c := m.Conf()
	if c.Num < before {
		g.t.Fatal("back", before, c)
	}
	if known, is := g.known[c.Num]; is && !same(known, c) {
		g.t.Fatal("two of one number", known, c)
	}
	if _, is := g.known[c.Num]; !is {
		g.known[c.Num] = c
		last, is := g.known[c.Num-1]
		if is {
			g.precedes(last, c)
		}
	}
	if g.ready[c.Num] == nil {
		g.ready[c.Num] = map[int]bool{}
	}
	for _, node := range m.Ready() {
		g.ready[c.Num][node] = true
	}
}

// precedes checks that the full ones were ready before, in their order.
func (g *group) precedes(last, c api.Config) {
	at := -1
	for _, node := range c.Chain[:c.Full] {
		i := slices.Index(last.Chain, node)
		if i <= at || !g.ready[last.Num][node] {
			g.t.Fatal("not ready before", last, c)
		}
		at = i
	}
}

func (g *group) step(faults bool) {
	id := g.next(3)
	m := g.masters[id]
	before := m.Conf().Num
	var out []api.Packet
	var e api.Errno
	switch k := g.next(10); {
	case k < 2:
		out, e = m.Tick()
	case k < 4:
		out, e = m.Handle(api.Packet{Kind: api.PkAlive, From: 10 + g.next(4), To: id, Num: before, Ready: g.next(2) == 0})
	case len(g.bag) > 0:
		i := g.next(len(g.bag))
		p := g.bag[i]
		if !faults || g.next(8) > 0 {
			g.bag = slices.Delete(g.bag, i, i+1)
		}
		if faults && g.next(8) == 0 || p.To > 2 {
			return
		}
		id = p.To
		m = g.masters[id]
		before = m.Conf().Num
		out, e = m.Handle(p)
	}
	if e == api.ErrDown {
		g.disks[id].Revive()
		g.masters[id] = made(g.t, id, 4, 3, 4, g.disks[id])
	}
	g.bag = append(g.bag, out...)
	if faults && g.next(40) == 0 {
		g.disks[g.next(3)].Arm(g.next(60))
	}
	g.check(id, before)
}

// P17.5, P17.6, P17.7: whatever happens, one configuration a number, and none is forgotten.
func TestAgreement(t *testing.T) {
	for seed := range uint32(30) {
		g := &group{t: t, seed: seed * 77, known: map[int]api.Config{}, ready: map[int]map[int]bool{}}
		for id := range g.masters {
			g.disks[id] = disk.New()
			g.masters[id] = made(t, id, 4, 3, 4, g.disks[id])
		}
		for range 4000 {
			g.step(true)
		}
		if len(g.known) < 3 {
			t.Error("nothing is ever chosen", seed, len(g.known))
		}
	}
}
