package vote

import (
	"slices"
	"testing"

	"sealchain/api"
	"sealchain/disk"
	"sealchain/num"
	"sealchain/wal"
)

func conf(n int, chain ...int) api.Config { return api.Config{Num: n, Full: 1, Chain: chain} }

func opened(t *testing.T, d *disk.Disk) *Voter {
	t.Helper()
	v, e := Open(d)
	if e != api.OK {
		t.Fatal(e)
	}
	return v
}

// state writes all of a voter as numbers.
func state(v *Voter) []int {
	out := []int{v.Promised(), v.Floor()}
	return append(out, flat(v.Votes())...)
}

func flat(votes []api.Vote) []int {
	var out []int
	for _, x := range votes {
		out = append(append(out, x.Ballot, x.Conf.Num, x.Conf.Full), x.Conf.Chain...)
	}
	return out
}

func prepares(t *testing.T, v *Voter, ballot, from int, want []int, ok bool, e api.Errno) {
	t.Helper()
	votes, is, f := v.Prepare(ballot, from)
	if !slices.Equal(flat(votes), want) || is != ok || f != e {
		t.Error("Prepare", ballot, from, votes, is, f)
	}
}

func accepts(t *testing.T, v *Voter, ballot int, c api.Config, ok bool, e api.Errno) {
	t.Helper()
	if is, f := v.Accept(ballot, c); is != ok || f != e {
		t.Error("Accept", ballot, c, is, f)
	}
}

// The chapter's examples.
func TestExamples(t *testing.T) {
	d := disk.New()
	v := opened(t, d)
	prepares(t, v, 4, 1, nil, true, api.OK)
	prepares(t, v, 3, 1, nil, false, api.OK)
	accepts(t, v, 3, conf(1, 10), false, api.OK)
	accepts(t, v, 4, conf(1, 10), true, api.OK)
	prepares(t, v, 8, 1, []int{4, 1, 1, 10}, true, api.OK)
	prepares(t, v, 8, 2, nil, true, api.OK)
	if v.Forget(2) != api.OK || v.Floor() != 2 || len(v.Votes()) != 0 {
		t.Error(v.Floor(), v.Votes())
	}
	accepts(t, v, 9, conf(1, 10), false, api.OK)
}

// Nil and zero voters.
func TestNone(t *testing.T) {
	for _, v := range []*Voter{nil, {}} {
		prepares(t, v, 0, 0, nil, false, api.ErrNil)
		accepts(t, v, 0, api.Config{}, false, api.ErrNil)
		if v.Forget(0) != api.ErrNil || v.Promised() != 0 || v.Floor() != 0 || v.Votes() != nil || v.Dead() {
			t.Error("is something")
		}
	}
}

// P15.1: rows that may not be.
func TestOpen(t *testing.T) {
	if v, e := Open(nil); v != nil || e != api.ErrNil {
		t.Error(e)
	}
	dead := disk.New()
	dead.Crash(0)
	if v, e := Open(dead); v != nil || e != api.ErrDead {
		t.Error(e)
	}
	spoilt := disk.New()
	spoilt.Write([]byte{1, 2, 3, 4})
	if v, e := Open(spoilt); v != nil || e != api.ErrSpoil {
		t.Error(e)
	}
	raw := func(w *num.Writer) []byte {
		b, _ := w.Bytes()
		return b
	}
	a := func(n int) []byte {
		return raw(num.Write().Num(1, 2).Count(5).Text([]byte{byte(n), 1, 1, 10}))
	}
	floor2, promise9 := []byte{3, 2}, []byte{1, 9}
	nine := [][]byte{a(1), a(2), a(3), a(4), a(5), a(6), a(7), a(8), a(9)}
	for i, c := range []struct {
		rows [][]byte
		want []int
	}{
		{nil, []int{0, 0}},
		{[][]byte{promise9}, []int{9, 0}},
		{[][]byte{promise9, {1, 8}}, []int{9, 0}},
		{[][]byte{a(1)}, []int{5, 0, 5, 1, 1, 10}},
		{[][]byte{a(0)}, []int{5, 0, 5, 0, 1, 10}},
		{[][]byte{a(1), promise9, floor2}, []int{9, 2}},
		{[][]byte{a(2), floor2, {3, 1}, a(3)}, []int{5, 2, 5, 2, 1, 10, 5, 3, 1, 10}},
		{[][]byte{floor2, a(1)}, nil},
		{append(nine[:8:8], a(8)), append([]int{5, 0}, flat([]api.Vote{{Ballot: 5, Conf: conf(1, 10)}, {Ballot: 5, Conf: conf(2, 10)}, {Ballot: 5, Conf: conf(3, 10)}, {Ballot: 5, Conf: conf(4, 10)}, {Ballot: 5, Conf: conf(5, 10)}, {Ballot: 5, Conf: conf(6, 10)}, {Ballot: 5, Conf: conf(7, 10)}, {Ballot: 5, Conf: conf(8, 10)}})...)},
		{nine, nil},
		{append(nine[:9:9], []byte{3, 5}), nil},
		{[][]byte{{}}, nil},
		{[][]byte{{0, 1}}, nil},
		{[][]byte{{4, 1}}, nil},
		{[][]byte{{1}}, nil},
		{[][]byte{{1, 0}}, nil},
		{[][]byte{{3, 0}}, nil},
		{[][]byte{{1, 9, 9}}, nil},
		{[][]byte{{3, 9, 9}}, nil},
		{[][]byte{append(a(1), 0)}, nil},
		{[][]byte{raw(num.Write().Num(1, 2).Count(0).Text([]byte{1, 1, 1, 10}))}, nil},
		{[][]byte{raw(num.Write().Num(1, 2).Count(5).Text([]byte{1, 2, 1, 10}))}, nil},
		{[][]byte{raw(num.Write().Num(1, 2).Count(5).Text(nil))}, nil},
		{[][]byte{{1, 0x80, 1}}, nil},
	} {
		d := disk.New()
		l, _ := wal.Open(d)
		l.Add(c.rows...)
		v, e := Open(d)
		if c.want == nil {
			if v != nil || e != api.ErrSpoil {
				t.Error(i, e)
			}
		} else if e != api.OK || !slices.Equal(state(v), c.want) {
			t.Error(i, e, state(v))
		}
	}
}

// P15.2: Prepare.
func TestPrepare(t *testing.T) {
	d := disk.New()
	v := opened(t, d)
	for _, c := range [][2]int{{0, 1}, {-1, 1}, {1, 0}, {1, -1}, {api.MaxNumber + 1, 1}, {1, api.MaxNumber + 1}, {0, 0}} {
		prepares(t, v, c[0], c[1], nil, false, api.ErrArg)
	}
	if len(d.Trace()) != 0 {
		t.Error("written")
	}
	for n := 5; n > 0; n-- {
		accepts(t, v, 3, conf(n, 12), true, api.OK)
	}
	written := len(d.Trace())
	prepares(t, v, 3, 4, []int{3, 4, 1, 12, 3, 5, 1, 12}, true, api.OK)
	prepares(t, v, 2, 4, nil, false, api.OK)
	if len(d.Trace()) != written || v.Promised() != 3 {
		t.Error("written")
	}
	prepares(t, v, api.MaxNumber, api.MaxNumber, nil, true, api.OK)
	l, _ := wal.Open(d)
	last := l.Rows()[l.Len()-1]
	want, _ := num.Write().Num(1, 1).Count(api.MaxNumber).Bytes()
	if v.Promised() != api.MaxNumber || !slices.Equal(last, want) {
		t.Error(last)
	}
}

// P15.3: Accept.
func TestAccept(t *testing.T) {
	d := disk.New()
	v := opened(t, d)
	accepts(t, v, 0, conf(1, 10), false, api.ErrArg)
	accepts(t, v, api.MaxNumber+1, conf(1, 10), false, api.ErrArg)
	accepts(t, v, 1, conf(1), false, api.ErrArg)
	accepts(t, v, 1, conf(1, 10, 10), false, api.ErrArg)
	accepts(t, v, 1, conf(0, 10), true, api.OK)
	accepts(t, v, 1, conf(0, 11), true, api.OK)
	accepts(t, v, 7, conf(0, 12), true, api.OK)
	if !slices.Equal(state(v), []int{7, 0, 7, 0, 1, 12}) {
		t.Error(state(v))
	}
	for n := 1; n < 8; n++ {
		accepts(t, v, 7, conf(n, 10), true, api.OK)
	}
	accepts(t, v, 7, conf(8, 10), false, api.ErrLimit)
	accepts(t, v, 9, conf(8, 10), false, api.ErrLimit)
	accepts(t, v, 6, conf(8, 10), false, api.OK)
	if v.Promised() != 7 || len(v.Votes()) != 8 {
		t.Error(state(v))
	}
	written := len(d.Trace())
	accepts(t, v, 7, conf(7, 10), true, api.OK)
	if len(d.Trace()) != written+1 {
		t.Error("the same vote is written again")
	}
	v.Forget(3)
	accepts(t, v, 9, conf(2, 10), false, api.OK)
	accepts(t, v, 9, conf(3, 10), true, api.OK)
	accepts(t, v, 9, conf(8, 10), true, api.OK)
}

// P15.4: Forget, and what it writes.
func TestForget(t *testing.T) {
	d := disk.New()
	v := opened(t, d)
	for _, n := range []int{0, -1, api.MaxNumber + 1} {
		if v.Forget(n) != api.ErrArg {
			t.Error(n)
		}
	}
	if v.Forget(1) != api.OK || v.Floor() != 1 {
		t.Error(v.Floor())
	}
	l, _ := wal.Open(d)
	if rows := l.Rows(); len(rows) != 1 || !slices.Equal(rows[0], []byte{3, 1}) {
		t.Error(rows)
	}
	v.Accept(4, conf(3, 11))
	v.Accept(5, conf(2, 10))
	v.Accept(5, conf(1, 10))
	written := len(d.Trace())
	if v.Forget(1) != api.OK || len(d.Trace()) != written {
		t.Error("not greater")
	}
	if v.Forget(2) != api.OK || !slices.Equal(state(v), []int{5, 2, 5, 2, 1, 10, 4, 3, 1, 11}) {
		t.Error(state(v))
	}
	l, _ = wal.Open(d)
	want := [][]byte{{1, 5}, {3, 2}, {2, 5, 4, 2, 1, 1, 10}, {2, 4, 4, 3, 1, 1, 11}}
	if rows := l.Rows(); !slices.EqualFunc(rows, want, slices.Equal[[]byte]) {
		t.Error(rows)
	}
	if v.Forget(api.MaxNumber) != api.OK || !slices.Equal(state(v), []int{5, api.MaxNumber}) {
		t.Error(state(v))
	}
}

// P15.4: a dead disk.
func TestDead(t *testing.T) {
	for i, call := range []func(v *Voter) api.Errno{
		func(v *Voter) api.Errno { _, _, e := v.Prepare(9, 1); return e },
		func(v *Voter) api.Errno { _, e := v.Accept(9, conf(1, 11)); return e },
		func(v *Voter) api.Errno { return v.Forget(1) },
	} {
		d := disk.New()
		v := opened(t, d)
		v.Accept(5, conf(1, 10))
		before := state(v)
		d.Crash(0)
		prepares(t, v, 4, 1, nil, false, api.OK)
		if call(v) != api.ErrDead || !v.Dead() || !slices.Equal(state(v), before) {
			t.Error(i, state(v))
		}
		d.Revive()
		prepares(t, v, 0, 0, nil, false, api.ErrDead)
		accepts(t, v, 0, api.Config{}, false, api.ErrDead)
		if v.Forget(0) != api.ErrDead {
			t.Error(i)
		}
	}
}

// P15.5, P15.6: memory.
func TestMemory(t *testing.T) {
	v := opened(t, disk.New())
	c := conf(1, 10, 11)
	v.Accept(1, c)
	c.Chain[0] = 13
	v.Votes()[0].Conf.Chain[0] = 13
	votes, _, _ := v.Prepare(1, 1)
	votes[0].Conf.Chain[1] = 13
	if !slices.Equal(state(v), []int{1, 0, 1, 1, 1, 10, 11}) {
		t.Error(state(v))
	}
}

// P15.7, P15.8: a voter that is opened again knows all that was confirmed, wherever the disk fails.
func TestLasting(t *testing.T) {
	seed := uint32(5)
	next := func(n int) int {
		seed = seed*1664525 + 1013904223
		return int(seed>>8) % n
	}
	d := disk.New()
	v := opened(t, d)
	promised, floor, voted := 0, 0, map[int]int{}
	for range 3000 {
		ballot, n := 1+next(40)+promised/2, 1+next(6)+floor/2
		if next(12) == 0 {
			d.Arm(next(30))
		}
		switch next(8) {
		case 0, 1, 2:
			if _, ok, _ := v.Prepare(ballot, n); ok != (ballot >= promised && !v.Dead()) {
				t.Fatal("Prepare", ballot, promised)
			} else if ok {
				promised = ballot
			}
		case 7:
			if v.Forget(n) == api.OK {
				floor = max(floor, n)
			}
		default:
			ok, _ := v.Accept(ballot, conf(n, 10+next(4)))
			if ok && (ballot < promised || n < floor) {
				t.Fatal("Accept", ballot, n)
			}
			if ok {
				promised, voted[n] = ballot, ballot
			}
		}
		if v.Dead() {
			d.Revive()
			v = opened(t, d)
			if v.Promised() < promised || v.Floor() < floor {
				t.Fatal("forgotten", state(v))
			}
			promised, floor = v.Promised(), v.Floor()
		}
		have := map[int]int{}
		for _, x := range v.Votes() {
			have[x.Conf.Num] = x.Ballot
		}
		for n, ballot := range voted {
			if n >= v.Floor() && have[n] < ballot {
				t.Fatal("a vote is missing", n, ballot)
			}
		}
	}
}
