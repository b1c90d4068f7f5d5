package lead

import (
	"slices"
	"testing"

	"sealchain/api"
)

func conf(n int, chain ...int) api.Config { return api.Config{Num: n, Full: 1, Chain: chain} }

func vote(ballot int, c api.Config) api.Vote { return api.Vote{Ballot: ballot, Conf: c} }

func same(c, d api.Config) bool {
	return c.Num == d.Num && c.Full == d.Full && slices.Equal(c.Chain, d.Chain)
}

func made(t *testing.T, id int) *Lead {
	t.Helper()
	l, e := New(id)
	if e != api.OK {
		t.Fatal(e)
	}
	return l
}

// leads is one that leads with a ballot.
func leads(t *testing.T, id, above, from int, votes ...api.Vote) *Lead {
	t.Helper()
	l := made(t, id)
	b, _ := l.Start(above, from)
	l.Promise(0, b, votes)
	if is, e := l.Promise(1, b, nil); !is || e != api.OK {
		t.Fatal(e)
	}
	return l
}

// The chapter's examples.
func TestExamples(t *testing.T) {
	l := made(t, 1)
	for i, c := range []struct{ above, from, want int }{{0, 1, 1}, {0, 1, 4}, {7, 2, 10}} {
		if b, e := l.Start(c.above, c.from); b != c.want || e != api.OK {
			t.Error(i, b, e)
		}
	}
	if l.Phase() != 1 {
		t.Error(l.Phase())
	}
	if is, e := l.Promise(1, 10, nil); is || e != api.OK {
		t.Error(is, e)
	}
	if is, e := l.Promise(2, 10, []api.Vote{vote(3, conf(2, 11))}); !is || e != api.OK {
		t.Error(is, e)
	}
	if c, e := l.Propose(conf(2, 12)); !same(c, conf(2, 11)) || e != api.OK {
		t.Error(c, e)
	}
	for i, c := range []struct {
		who    int
		chosen bool
	}{{0, false}, {0, false}, {1, true}} {
		if is, e := l.Yes(c.who, 10, 2); is != c.chosen || e != api.OK {
			t.Error(i, is, e)
		}
	}
	if l.From() != 3 || l.No(9) != api.ErrState || l.No(12) != api.OK || l.Phase() != 0 {
		t.Error(l.From(), l.Phase())
	}
}

// Nil and zero leaders.
func TestNone(t *testing.T) {
	for _, l := range []*Lead{nil, {}} {
		if b, e := l.Start(-1, 0); b != 0 || e != api.ErrNil {
			t.Error(e)
		}
		if is, e := l.Promise(9, 0, nil); is || e != api.ErrNil {
			t.Error(e)
		}
		if c, e := l.Propose(conf(1, 10)); !same(c, api.Config{}) || e != api.ErrNil {
			t.Error(e)
		}
		if is, e := l.Yes(9, 0, 0); is || e != api.ErrNil {
			t.Error(e)
		}
		_, bound := l.Bound(0)
		_, pending := l.Pending()
		if l.No(0) != api.ErrNil || bound || pending || l.Ballot() != 0 || l.From() != 0 || l.Phase() != 0 {
			t.Error("is something")
		}
	}
}

// P16.1: New and Start.
func TestStart(t *testing.T) {
	for _, id := range []int{-1, 3, 10} {
		if l, e := New(id); l != nil || e != api.ErrArg {
			t.Error(id, e)
		}
	}
	l := made(t, 0)
	if l.Phase() != 0 || l.Ballot() != 0 || l.From() != 0 {
		t.Error("new")
	}
	for _, c := range [][2]int{{-1, 1}, {api.MaxNumber - 2, 1}, {0, 0}, {0, -1}, {0, api.MaxNumber + 1}, {-1, 0}} {
		if b, e := l.Start(c[0], c[1]); b != 0 || e != api.ErrArg || l.Phase() != 0 {
			t.Error(c, b, e)
		}
	}
	if b, e := l.Start(0, api.MaxNumber); b != 3 || e != api.OK || l.From() != api.MaxNumber {
		t.Error(b, e)
	}
	for id := range 3 {
		l := made(t, id)
		b, e := l.Start(api.MaxNumber-3, 1)
		if e != api.OK || b <= api.MaxNumber-3 || b > api.MaxNumber || b%3 != id {
			t.Error(id, b, e)
		}
	}
	l = leads(t, 2, 5, 4, vote(3, conf(4, 11)))
	l.Propose(conf(4, 11))
	if b, e := l.Start(0, 2); b != 11 || e != api.OK || l.Phase() != 1 || l.From() != 2 {
		t.Error(b, e)
	}
	_, bound := l.Bound(4)
	_, pending := l.Pending()
	if is, _ := l.Promise(0, 11, nil); bound || pending || is {
		t.Error("something remained")
	}
}

// P16.2: Promise.
func TestPromise(t *testing.T) {
	l := made(t, 1)
	if _, e := l.Promise(0, 0, nil); e != api.ErrState {
		t.Error(e)
	}
	b, _ := l.Start(8, 3)
	for _, c := range []struct {
		who, ballot int
		want        api.Errno
	}{{-1, b, api.ErrRange}, {3, b, api.ErrRange}, {3, 0, api.ErrRange}, {0, b - 1, api.ErrState}, {0, b + 3, api.ErrState}} {
		if is, e := l.Promise(c.who, c.ballot, nil); is || e != c.want {
			t.Error(c, e)
		}
	}
	l.Promise(2, b, []api.Vote{vote(4, conf(3, 10)), vote(5, conf(2, 10)), vote(0, conf(4, 10)), vote(b, conf(5, 10)), vote(b-1, conf(6, 13)), vote(-1, conf(7, 10))})
	if is, e := l.Promise(2, b, []api.Vote{vote(4, conf(3, 11)), vote(7, conf(3, 12)), vote(7, conf(3, 10)), vote(6, conf(3, 13))}); is || e != api.OK {
		t.Error(is, e)
	}
	for n, want := range map[int]api.Config{2: {}, 3: conf(3, 12), 4: {}, 5: {}, 6: conf(6, 13), 7: {}} {
		if c, is := l.Bound(n); is != (want.Num != 0) || !same(c, want) {
			t.Error(n, c, is)
		}
	}
	if l.Phase() != 1 {
		t.Error("one master is no majority")
	}
	if is, e := l.Promise(0, b, nil); !is || e != api.OK || l.Phase() != 2 {
		t.Error(is, e)
	}
	if is, e := l.Promise(1, b, nil); is || e != api.ErrState {
		t.Error(is, e)
	}
}

// P16.3: Propose and Yes.
func TestPropose(t *testing.T) {
	l := made(t, 0)
	if _, e := l.Propose(conf(1, 10)); e != api.ErrState {
		t.Error(e)
	}
	l.Start(0, 1)
	if _, e := l.Propose(conf(1, 10)); e != api.ErrState {
		t.Error(e)
	}
	l = leads(t, 0, 0, 5, vote(1, conf(7, 13)))
	if _, e := l.Propose(conf(4, 10)); e != api.ErrArg {
		t.Error(e)
	}
	if _, e := l.Yes(0, 3, 5); e != api.ErrState {
		t.Error(e)
	}
	if c, e := l.Propose(conf(5, 10, 11)); e != api.OK || !same(c, conf(5, 10, 11)) {
		t.Error(c, e)
	}
	if c, e := l.Propose(conf(4, 12)); e != api.ErrState || !same(c, api.Config{}) {
		t.Error(c, e)
	}
	for _, c := range []struct {
		who, ballot, num int
		want             api.Errno
	}{{3, 3, 5, api.ErrRange}, {-1, 0, 0, api.ErrRange}, {0, 4, 5, api.ErrState}, {0, 3, 6, api.ErrState}, {0, 3, 4, api.ErrState}, {1, 3, 5, api.OK}, {1, 3, 5, api.OK}} {
		if is, e := l.Yes(c.who, c.ballot, c.num); is || e != c.want {
			t.Error(c, is, e)
		}
	}
	if is, e := l.Yes(2, 3, 5); !is || e != api.OK || l.From() != 6 {
		t.Error(is, e)
	}
	if is, e := l.Yes(0, 3, 5); is || e != api.ErrState {
		t.Error(is, e)
	}
	if _, e := l.Propose(conf(5, 10)); e != api.ErrArg {
		t.Error(e)
	}
	if c, _ := l.Propose(conf(7, 10)); !same(c, conf(7, 13)) {
		t.Error(c)
	}
	if is, _ := l.Yes(1, 3, 7); is {
		t.Error("who accepted another one counts")
	}
}

// P16.4: No, Bound and Pending.
func TestNo(t *testing.T) {
	l := made(t, 0)
	if l.No(9) != api.ErrState {
		t.Error("idle")
	}
	l = leads(t, 0, 0, 1)
	l.Propose(conf(1, 10))
	if c, is := l.Pending(); !is || !same(c, conf(1, 10)) {
		t.Error(c, is)
	}
	if l.No(3) != api.ErrState || l.No(-1) != api.ErrState || l.Phase() != 2 || l.No(4) != api.OK || l.Phase() != 0 || l.No(9) != api.ErrState {
		t.Error(l.Phase())
	}
	if c, is := l.Pending(); is || !same(c, api.Config{}) {
		t.Error(c, is)
	}
	if l.Ballot() != 3 || l.From() != 1 {
		t.Error(l.Ballot())
	}
}

// P16.5: memory.
func TestMemory(t *testing.T) {
	votes := []api.Vote{vote(1, conf(2, 10))}
	l := leads(t, 0, 0, 1, votes...)
	votes[0].Conf.Chain[0] = 13
	c, _ := l.Bound(2)
	c.Chain[0] = 13
	mine := conf(1, 11)
	out, _ := l.Propose(mine)
	mine.Chain[0], out.Chain[0] = 13, 13
	c, _ = l.Pending()
	if !same(c, conf(1, 11)) {
		t.Error(c)
	}
	c.Chain[0] = 13
	if c, _ = l.Pending(); !same(c, conf(1, 11)) {
		t.Error(c)
	}
	if c, _ = l.Bound(2); !same(c, conf(2, 10)) {
		t.Error(c)
	}
}

// P16.6: whose ballots are whose.
func TestBallots(t *testing.T) {
	seen := map[int]bool{}
	for id := range 3 {
		l := made(t, id)
		last := 0
		for i := range 50 {
			b, _ := l.Start(i*i%60, 1)
			if b <= last || b <= i*i%60 || b%3 != id || seen[b] || l.Ballot() != b {
				t.Fatal(id, b)
			}
			last, seen[b] = b, true
		}
	}
}

// P16.7: what was chosen is proposed again, whoever leads.
func TestChosen(t *testing.T) {
	seed := uint32(5)
	next := func(n int) int {
		seed = seed*1664525 + 1013904223
		return int(seed>>8) % n
	}
	for range 300 {
		var promised [3]int
		var votes [3][]api.Vote
		var chosen *api.Config
		top := 0
		for range 12 {
			id := next(3)
			l := made(t, id)
			b, _ := l.Start(top, 1)
			top = b
			for _, who := range []int{next(3), next(3), next(3)} {
				if promised[who] <= b {
					promised[who] = b
					l.Promise(who, b, votes[who])
				}
			}
			c, e := l.Propose(conf(1, 10+next(4)))
			if e != api.OK {
				continue
			}
			if chosen != nil && !same(c, *chosen) {
				t.Fatal("another one is proposed", c, *chosen)
			}
			for _, who := range []int{next(3), next(3)} {
				promised[who] = b
				votes[who] = []api.Vote{vote(b, c)}
				if is, _ := l.Yes(who, b, 1); is {
					chosen = &c
				}
			}
		}
	}
}
