package judge

import (
	"slices"
	"testing"

	"sealchain/api"
	"sealchain/mode"
	"sealchain/seal"
	"sealchain/tape"
	"sealchain/world"
)

var source = tape.New([]byte("t"))

func realMode(t *testing.T) *mode.Mode {
	t.Helper()
	m, e := mode.Real(make([]byte, 32))
	if e != api.OK {
		t.Fatal(e)
	}
	return m
}

func name(m *mode.Mode, key string) api.Name {
	n, _ := m.Name([]byte(key))
	return n
}

// put is a request that puts a value.
func put(m *mode.Mode, client, n int, key string, version int, value string) api.Req {
	return sealed(m, client, n, key, version, 0, value, false)
}

func bury(m *mode.Mode, client, n int, key string, version int) api.Req {
	return sealed(m, client, n, key, version, 0, "", true)
}

func sealed(m *mode.Mode, client, n int, key string, version, epoch int, value string, tomb bool) api.Req {
	env, _ := seal.Seal(m, source, name(m, key), version, epoch, []byte(value), tomb)
	return api.Req{Client: client, Num: n, Kind: api.ReqPut, Version: version, Name: name(m, key), Env: env}
}

func get(m *mode.Mode, client, n int, key string) api.Req {
	return api.Req{Client: client, Num: n, Kind: api.ReqGet, Name: name(m, key)}
}

func raise(client, n, version int) api.Req {
	return api.Req{Client: client, Num: n, Kind: api.ReqEpoch, Version: version}
}

func judged(t *testing.T, what string, m *mode.Mode, things []api.Hist, order []api.Req, rule, at int) {
	t.Helper()
	if r, a := Judge(m, things, order); r != rule || a != at {
		t.Errorf("%s: %d %d, not %d %d", what, r, a, rule, at)
	}
}

// The chapter's examples.
func TestExamples(t *testing.T) {
	m := realMode(t)
	p := api.Hist{Client: 0, Num: 1, Kind: api.OpPut, Key: []byte("k"), Value: []byte("5"), Version: 1, Begin: 1, End: 2, First: 1, Last: 2}
	g := api.Hist{Client: 1, Num: 1, Kind: api.OpGet, Key: []byte("k"), Value: []byte("5"), Version: 1, Begin: 3, End: 4, First: 1, Last: 1}
	order := []api.Req{get(m, 0, 1, "k"), put(m, 0, 2, "k", 1, "5"), get(m, 1, 1, "k")}
	judged(t, "good", m, []api.Hist{p, g}, order, 0, 0)
	six, two := g, g
	six.Value = []byte("6")
	two.Version = 2
	judged(t, "6", m, []api.Hist{p, six}, order, 6, 1)
	judged(t, "2", m, []api.Hist{p, two}, order, 6, 1)
	judged(t, "first", m, []api.Hist{p, g}, []api.Req{order[2], order[0], order[1]}, 5, 1)
	judged(t, "without", m, []api.Hist{p, g}, []api.Req{order[0], order[2]}, 4, 0)
	judged(t, "second", m, []api.Hist{p, g}, append(slices.Clone(order), put(m, 0, 3, "k", 2, "5")), 3, 4)
}

// P25.1: the map.
func TestMap(t *testing.T) {
	for _, x := range []*Map{nil, {}, NewMap(nil), NewMap(&mode.Mode{})} {
		if is, e := x.Do(api.Req{}); is || e != api.ErrNil {
			t.Error(e)
		}
		v, value, tomb := x.Get(api.Name{})
		if v != 0 || value != nil || tomb || x.Epoch() != 0 || x.Len() != 0 {
			t.Error("has something")
		}
	}
	m := realMode(t)
	x := NewMap(m)
	for i, c := range []struct {
		r      api.Req
		effect bool
		e      api.Errno
	}{
		{put(m, 0, 1, "a", 2, "x"), false, api.OK},
		{put(m, 0, 1, "a", 1, "x"), false, api.OK},
		{put(m, 0, 2, "a", 1, "x"), true, api.OK},
		{put(m, 0, 2, "a", 2, "y"), false, api.OK},
		{put(m, 0, 1, "a", 2, "y"), false, api.OK},
		{put(m, 1, 1, "a", 2, "y"), true, api.OK},
		{api.Req{Client: 1, Num: 2, Kind: api.ReqPut, Version: 3, Name: name(m, "a"), Env: make([]byte, 45)}, false, api.ErrTamper},
		{api.Req{Client: 1, Num: 2, Kind: api.ReqPut, Version: 4, Name: name(m, "a"), Env: make([]byte, 45)}, false, api.OK},
		{bury(m, 1, 3, "a", 3), true, api.OK},
		{get(m, 1, 9, "a"), false, api.OK},
		{put(m, 1, 8, "a", 4, "y"), false, api.OK},
		{raise(2, 1, 2), false, api.OK},
		{raise(2, 2, 1), true, api.OK},
		{raise(2, 3, 1), false, api.OK},
		{api.Req{Client: 2, Num: 4, Kind: api.ReqNext}, false, api.OK},
		{api.Req{Client: 2, Num: 5, Kind: 77}, false, api.OK},
	} {
		if is, e := x.Do(c.r); is != c.effect || e != c.e {
			t.Error(i, is, e)
		}
	}
	if v, value, tomb := x.Get(name(m, "a")); v != 3 || len(value) != 0 || !tomb || x.Epoch() != 1 || x.Len() != 1 {
		t.Error(v, value, tomb)
	}
	for i := range 63 {
		key := string([]byte{'b', byte(i)})
		if is, e := x.Do(put(m, 0, 100+i, key, 1, "z")); !is || e != api.OK {
			t.Error(i, e)
		}
	}
	if is, e := x.Do(put(m, 0, 200, "new", 1, "z")); is || e != api.OK || x.Len() != 64 {
		t.Error(is, e)
	}
	if is, e := x.Do(put(m, 0, 201, "a", 4, "again")); !is || e != api.OK {
		t.Error(is, e)
	}
	_, value, _ := x.Get(name(m, "a"))
	clear(value)
	if _, value, _ = x.Get(name(m, "a")); string(value) != "again" {
		t.Error("shared")
	}
}

// P25.2: no mode.
func TestNoMode(t *testing.T) {
	for _, m := range []*mode.Mode{nil, {}} {
		judged(t, "any", m, []api.Hist{{Kind: 1, Begin: 1}}, nil, 1, 0)
		judged(t, "none", m, nil, []api.Req{{}}, 0, 0)
	}
	judged(t, "nothing", realMode(t), nil, nil, 0, 0)
}

// P25.2: rule 1.
func TestInvalid(t *testing.T) {
	m := realMode(t)
	good := api.Hist{Client: 2, Kind: 6, Begin: 1, End: 1, First: 1, Last: 1, Code: api.ErrTime}
	with := func(change func(h *api.Hist)) []api.Hist {
		h := good
		change(&h)
		return []api.Hist{good, h}
	}
	for i, change := range []func(h *api.Hist){
		func(h *api.Hist) { h.Client = 3 }, func(h *api.Hist) { h.Client = -1 },
		func(h *api.Hist) { h.Kind = 0 }, func(h *api.Hist) { h.Kind = 7 },
		func(h *api.Hist) { h.Begin = 0 }, func(h *api.Hist) { h.Begin = 5 },
		func(h *api.Hist) { h.End = -1 }, func(h *api.Hist) { h.First = 0 }, func(h *api.Hist) { h.Last = 0 },
		func(h *api.Hist) { h.First = 2 }, func(h *api.Hist) { h.First = -1 },
		func(h *api.Hist) { h.Code = api.ErrTamper }, func(h *api.Hist) { h.Code = api.ErrRoll },
		func(h *api.Hist) { h.Code = api.ErrFork }, func(h *api.Hist) { h.Code = api.ErrNil }, func(h *api.Hist) { h.Code = api.ErrState },
	} {
		if r, at := Judge(m, with(change), nil); r != 1 || at != 1 {
			t.Error(i, r, at)
		}
		if r, at := Judge(m, with(change)[1:], nil); r != 1 || at != 0 {
			t.Error(i, r, at)
		}
	}
	for i, change := range []func(h *api.Hist){
		func(h *api.Hist) { h.Begin, h.End = 9, 0 }, func(h *api.Hist) { h.First, h.Last = 0, 0 }, func(h *api.Hist) { h.Code = api.ErrEpoch },
		func(h *api.Hist) { h.Code = api.ErrArg }, func(h *api.Hist) { h.Code = api.ErrSize }, func(h *api.Hist) { h.Code = api.ErrLimit },
	} {
		if r, at := Judge(m, with(change), nil); r != 0 || at != 0 {
			t.Error(i, r, at)
		}
	}
}

// P25.2: keys are named only if something was asked for them.
func TestNaming(t *testing.T) {
	m, _ := mode.Ideal(tape.New(make([]byte, 32)))
	things := []api.Hist{{Kind: api.OpPut, Key: []byte("k"), Begin: 1, Code: api.ErrLimit, End: 1}}
	judged(t, "not asked", m, things, nil, 0, 0)
	if name(m, "other") != (api.Name{}) {
		t.Error("named")
	}
}

// P25.2: rules 2 and 3.
func TestPuts(t *testing.T) {
	m := realMode(t)
	op := func(kind int, key, value string, first, last int) api.Hist {
		return api.Hist{Kind: kind, Key: []byte(key), Value: []byte(value), Begin: 1, First: first, Last: last}
	}
	junk := put(m, 0, 1, "k", 1, "x")
	junk.Env = make([]byte, 45)
	late := junk
	late.Version = 2
	one := op(api.OpPut, "k", "x", 1, 3)
	for i, c := range []struct {
		things   []api.Hist
		order    []api.Req
		rule, at int
	}{
		{[]api.Hist{one}, []api.Req{junk}, 2, 1},
		{[]api.Hist{one}, []api.Req{late}, 0, 0},
		{nil, []api.Req{put(m, 0, 1, "k", 1, "x")}, 3, 1},
		{nil, []api.Req{put(m, 0, 1, "k", 2, "x")}, 0, 0},
		{[]api.Hist{one}, []api.Req{put(m, 0, 1, "k", 1, "x")}, 0, 0},
		{[]api.Hist{one}, []api.Req{put(m, 0, 4, "k", 1, "x")}, 3, 1},
		{[]api.Hist{one}, []api.Req{put(m, 1, 1, "k", 1, "x")}, 3, 1},
		{[]api.Hist{one}, []api.Req{put(m, 0, 1, "k", 1, "y")}, 3, 1},
		{[]api.Hist{one}, []api.Req{put(m, 0, 1, "j", 1, "x")}, 3, 1},
		{[]api.Hist{one}, []api.Req{bury(m, 0, 1, "k", 1)}, 3, 1},
		{[]api.Hist{op(api.OpDelete, "k", "", 1, 1)}, []api.Req{bury(m, 0, 1, "k", 1)}, 0, 0},
		{[]api.Hist{op(api.OpDelete, "k", "", 1, 1)}, []api.Req{put(m, 0, 1, "k", 1, "")}, 3, 1},
		{[]api.Hist{op(api.OpPutIf, "k", "x", 1, 1)}, []api.Req{put(m, 0, 1, "k", 1, "x")}, 0, 0},
		{[]api.Hist{op(api.OpGet, "k", "", 1, 1)}, []api.Req{put(m, 0, 1, "k", 1, "")}, 3, 1},
		{[]api.Hist{op(api.OpSweep, "", "", 1, 1)}, []api.Req{put(m, 0, 1, "k", 1, "")}, 3, 1},
		// Twice the same by one operation: fine as long as nothing came between.
		{[]api.Hist{one}, []api.Req{put(m, 0, 1, "k", 1, "x"), put(m, 0, 2, "k", 2, "x")}, 0, 0},
		{[]api.Hist{one, {Client: 1, Kind: api.OpPut, Key: []byte("k"), Value: []byte("y"), Begin: 1, First: 1, Last: 1}},
			[]api.Req{put(m, 0, 1, "k", 1, "x"), put(m, 1, 1, "k", 2, "y"), put(m, 0, 2, "k", 3, "x")}, 3, 3},
		// What is resealed is what was there, whoever does it.
		{[]api.Hist{one, {Client: 1, Kind: api.OpGet, Key: []byte("k"), Begin: 1, First: 1, Last: 2}},
			[]api.Req{put(m, 0, 1, "k", 1, "x"), get(m, 1, 1, "k"), sealed(m, 1, 2, "k", 2, 7, "x", false)}, 0, 0},
		{[]api.Hist{one, {Client: 1, Kind: api.OpSweep, Begin: 1, First: 1, Last: 2}},
			[]api.Req{put(m, 0, 1, "k", 1, "x"), sealed(m, 1, 2, "k", 2, 7, "", true)}, 3, 2},
		// The first operation that has a request counts.
		{[]api.Hist{op(api.OpGet, "k", "", 1, 1), one}, []api.Req{put(m, 0, 1, "k", 1, "x")}, 3, 1},
	} {
		if r, at := Judge(m, c.things, c.order); r != c.rule || at != c.at {
			t.Errorf("%d: %d %d, not %d %d", i, r, at, c.rule, c.at)
		}
	}
}

// P25.2, P25.5: rules 4 to 7, one operation each.
func TestConfirmed(t *testing.T) {
	m := realMode(t)
	k := []byte("k")
	put1 := api.Hist{Kind: api.OpPut, Key: k, Value: []byte("x"), Version: 1, Begin: 1, End: 2, First: 1, Last: 1}
	base := []api.Req{put(m, 0, 1, "k", 1, "x")}
	op := func(kind int, code api.Errno, version int, value string) api.Hist {
		h := api.Hist{Client: 1, Kind: kind, Code: code, Version: version, Value: []byte(value), Begin: 3, End: 4, First: 1, Last: 1}
		if kind < api.OpRotate {
			h.Key = k
		}
		return h
	}
	want := func(h api.Hist, n int) api.Hist { h.Want = n; return h }
	never := op(api.OpGet, 0, 9, "")
	never.End = 0
	for i, c := range []struct {
		h     api.Hist
		order []api.Req
		rule  int
	}{
		{op(api.OpGet, 0, 1, "x"), []api.Req{get(m, 1, 1, "k")}, 0},
		{op(api.OpGet, api.ErrVersion, 1, "x"), []api.Req{get(m, 1, 1, "k")}, 0},
		{op(api.OpGet, api.ErrVersion, 1, "y"), []api.Req{get(m, 1, 1, "k")}, 6},
		{op(api.OpGet, 0, 1, "x"), nil, 4},
		{op(api.OpGet, api.ErrTime, 9, "z"), nil, 0},
		{never, nil, 0},
		{op(api.OpGet, 0, 1, ""), []api.Req{get(m, 1, 1, "k")}, 6},
		{op(api.OpGet, 0, 0, "x"), []api.Req{get(m, 1, 1, "k")}, 6},
		{op(api.OpGet, api.ErrNone, 0, ""), []api.Req{get(m, 1, 1, "k")}, 6},
		{op(api.OpGet, api.ErrNone, 1, ""), []api.Req{get(m, 1, 1, "k")}, 6},
		{op(api.OpPut, 0, 2, "y"), []api.Req{put(m, 1, 1, "k", 2, "y")}, 0},
		{op(api.OpPut, 0, 3, "y"), []api.Req{put(m, 1, 1, "k", 2, "y")}, 7},
		{op(api.OpPut, 0, 2, "y"), []api.Req{put(m, 1, 1, "k", 3, "y")}, 7},
		{op(api.OpPut, 0, 2, "y"), []api.Req{put(m, 1, 1, "k", 2, "x")}, 7},
		{op(api.OpPut, 0, 1, "x"), []api.Req{get(m, 1, 1, "k")}, 7},
		{op(api.OpPut, api.ErrVersion, 2, "y"), []api.Req{get(m, 1, 1, "k")}, 0},
		{op(api.OpDelete, 0, 2, ""), []api.Req{bury(m, 1, 1, "k", 2)}, 0},
		{op(api.OpDelete, 0, 2, ""), []api.Req{get(m, 1, 1, "k")}, 7},
		{want(op(api.OpPutIf, 0, 2, "y"), 1), []api.Req{put(m, 1, 1, "k", 2, "y")}, 0},
		{want(op(api.OpPutIf, api.ErrVersion, 1, "y"), 0), []api.Req{put(m, 1, 1, "k", 1, "y")}, 0},
		{want(op(api.OpPutIf, api.ErrVersion, 1, "y"), 1), []api.Req{put(m, 1, 1, "k", 9, "y")}, 7},
		{op(api.OpRotate, 0, 1, ""), []api.Req{raise(1, 1, 1)}, 0},
		{op(api.OpRotate, 0, 1, ""), []api.Req{raise(1, 1, 2)}, 7},
		{op(api.OpRotate, 0, 2, ""), []api.Req{raise(1, 1, 1)}, 7},
		{op(api.OpRotate, 0, 1, ""), []api.Req{get(m, 1, 1, "k")}, 7},
		{op(api.OpRotate, api.ErrVersion, 9, ""), []api.Req{raise(1, 1, 2)}, 0},
		// What another one did is no effect of its own.
		{op(api.OpPut, 0, 1, "x"), []api.Req{put(m, 1, 1, "k", 1, "x")}, 7},
		{op(api.OpRotate, 0, 1, ""), []api.Req{raise(0, 2, 1), raise(1, 1, 1)}, 7},
		{op(api.OpRotate, 0, 2, ""), []api.Req{put(m, 1, 1, "k", 2, "x")}, 7},
		{op(api.OpPut, api.ErrNone, 7, "y"), []api.Req{get(m, 1, 1, "k")}, 0},
		{op(api.OpRotate, api.ErrNone, 7, ""), []api.Req{get(m, 1, 1, "k")}, 0},
		{op(api.OpPutIf, api.ErrNone, 7, "y"), []api.Req{get(m, 1, 1, "k")}, 0},
		{op(api.OpSweep, 0, 9, ""), []api.Req{get(m, 1, 1, "k")}, 0},
		{op(api.OpSweep, 0, 9, ""), nil, 4},
	} {
		at := 1
		if c.rule == 0 {
			at = 0
		}
		if r, a := Judge(m, []api.Hist{put1, c.h}, append(slices.Clone(base), c.order...)); r != c.rule || a != at {
			t.Errorf("%d: %d %d, not %d", i, r, a, c.rule)
		}
	}
	// A tombstone, and a get whose position is that of its first request.
	dead := api.Hist{Kind: api.OpDelete, Key: k, Version: 2, Begin: 3, End: 4, First: 2, Last: 2}
	gone := api.Hist{Client: 1, Kind: api.OpGet, Key: k, Code: api.ErrNone, Tomb: true, Version: 2, Begin: 5, End: 6, First: 1, Last: 2}
	order := append(slices.Clone(base), bury(m, 0, 2, "k", 2), get(m, 1, 1, "k"), sealed(m, 1, 2, "k", 3, 1, "", true))
	judged(t, "tombstone", m, []api.Hist{put1, dead, gone}, order, 0, 0)
	read := gone
	read.Code = api.OK
	judged(t, "a tombstone is no value", m, []api.Hist{put1, dead, read}, order, 6, 2)
	gone.Version = 3
	judged(t, "the second request", m, []api.Hist{put1, dead, gone}, order, 6, 2)
}

// P25.2: rule 7: a put counts for the key of its operation alone.
func TestOtherKey(t *testing.T) {
	m := realMode(t)
	things := []api.Hist{
		{Kind: api.OpPut, Key: []byte("j"), Value: []byte("x"), Begin: 1, First: 1, Last: 1},
		{Kind: api.OpPut, Key: []byte("k"), Value: []byte("x"), Begin: 1, First: 2, Last: 3},
		{Client: 1, Kind: api.OpPut, Key: []byte("k"), Value: []byte("x"), Version: 2, Begin: 1, End: 2, First: 1, Last: 1},
	}
	order := []api.Req{put(m, 0, 1, "j", 1, "x"), put(m, 0, 2, "k", 1, "x"), put(m, 0, 3, "k", 2, "x"), put(m, 1, 1, "j", 2, "x")}
	judged(t, "another key", m, things, order, 7, 2)
}

// P25.2: rule 5 needs one to begin after another one has ended.
func TestRealTime(t *testing.T) {
	m := realMode(t)
	op := func(client, begin, end int) api.Hist {
		return api.Hist{Client: client, Kind: api.OpGet, Key: []byte("k"), Code: api.ErrNone, Begin: begin, End: end, First: 1, Last: 1}
	}
	order := []api.Req{get(m, 1, 1, "k"), get(m, 0, 1, "k")}
	judged(t, "overlap", m, []api.Hist{op(0, 1, 5), op(1, 5, 9)}, order, 0, 0)
	judged(t, "after", m, []api.Hist{op(0, 1, 5), op(1, 6, 9)}, order, 5, 1)
	judged(t, "after, the other way round", m, []api.Hist{op(1, 6, 9), op(0, 1, 5)}, order, 5, 0)
	judged(t, "in order", m, []api.Hist{op(1, 1, 5), op(0, 6, 9)}, order, 0, 0)
	late := op(0, 1, 5)
	late.Code = api.ErrTime
	judged(t, "not confirmed", m, []api.Hist{late, op(1, 6, 9)}, order, 0, 0)
	judged(t, "the same request", m, []api.Hist{op(0, 1, 2), op(0, 6, 9)}, order, 5, 1)
}

// P25.3: arguments are only read.
func TestMemory(t *testing.T) {
	m := realMode(t)
	things := []api.Hist{{Kind: api.OpPut, Key: []byte("k"), Value: []byte("x"), Version: 1, Begin: 1, End: 2, First: 1, Last: 1}}
	order := []api.Req{put(m, 0, 1, "k", 1, "x")}
	env := slices.Clone(order[0].Env)
	judged(t, "good", m, things, order, 0, 0)
	if string(things[0].Value) != "x" || !slices.Equal(order[0].Env, env) {
		t.Error("changed")
	}
}

// P25.4, P25.5, P25.6: worlds in which much fails are judged correct, and a forged result is not.
func TestWorlds(t *testing.T) {
	forged := 0
	for seed := range uint32(40) {
		state := seed * 31337
		next := func(n int) int {
			state = state*1664525 + 1013904223
			return int(state>>8) % n
		}
		replicas := 1 + int(seed)%4
		w, e := world.New(replicas, 1+int(seed/4)%replicas, 3+int(seed)%3, seed%2 == 0, []byte{byte(seed)})
		if e != api.OK {
			t.Fatal(e)
		}
		nodes := w.Nodes()
		for range 1500 {
			switch k := next(100); {
			case k < 12:
				x := api.Deed{Kind: 1 + next(6)}
				if x.Kind < api.OpRotate {
					x.Key = []byte{byte('a' + next(3))}
				}
				if x.Kind == api.OpPut || x.Kind == api.OpPutIf {
					x.Value = []byte{byte(next(5))}
				}
				if x.Kind == api.OpPutIf {
					x.Want = next(6)
				}
				w.Ask(next(3), x)
			case k < 40:
				w.Tick(nodes[next(len(nodes))])
			case k < 84:
				w.Deliver(next(30))
			case k < 87:
				w.Twice(next(30))
			case k < 89:
				w.Drop(next(30))
			case k < 91:
				w.Arm(nodes[next(len(nodes))], next(100))
			case k < 92:
				w.Crash(nodes[next(len(nodes))], 0)
			case k < 95:
				w.Restart(nodes[next(len(nodes))])
			case k < 99:
				w.Round()
			default:
				w.Heal(30)
			}
		}
		w.Heal(1000)
		things, order := w.History(), w.Order()
		if r, at := Judge(w.Mode(), things, order); r != 0 {
			t.Errorf("seed %d: %d %d", seed, r, at)
		}
		for i, h := range things {
			if h.Kind == api.OpGet && confirmed(h) {
				things[i].Version++
				if r, at := Judge(w.Mode(), things, order); r != 6 || at != i {
					t.Errorf("seed %d: forged %d: %d %d", seed, i, r, at)
				}
				things[i].Version--
				forged++
			}
		}
	}
	if forged < 100 {
		t.Error("hardly anything was read", forged)
	}
}
