package world

import (
	"bytes"
	"slices"
	"testing"

	"sealchain/api"
	"sealchain/pack"
	"sealchain/seal"
	"sealchain/table"
	"sealchain/tape"
)

var k = []byte("k")

func made(t *testing.T, replicas, wished, limit int, ideal bool) *World {
	t.Helper()
	w, e := New(replicas, wished, limit, ideal, []byte("seed"))
	if e != api.OK {
		t.Fatal(e)
	}
	return w
}

func put(key, value string) api.Deed {
	return api.Deed{Kind: api.OpPut, Key: []byte(key), Value: []byte(value)}
}

func get(key string) api.Deed { return api.Deed{Kind: api.OpGet, Key: []byte(key)} }

func same(c, d api.Config) bool {
	return c.Num == d.Num && c.Full == d.Full && slices.Equal(c.Chain, d.Chain)
}

// does lets a client do something until it has ended.
func does(t *testing.T, w *World, client int, x api.Deed) api.Hist {
	t.Helper()
	if e := w.Ask(client, x); e != api.OK {
		t.Fatal(x, e)
	}
	w.Heal(1000)
	all := w.History()
	return all[len(all)-1]
}

// The chapter's examples.
func TestExamples(t *testing.T) {
	w, e := New(1, 1, 5, false, nil)
	if e != api.OK || w.Step() != 0 || w.Len() != 0 || len(w.Rows()) != 0 || len(w.History()) != 0 || len(w.Order()) != 0 {
		t.Fatal(e)
	}
	if e := w.Ask(0, put("k", "v")); e != api.OK {
		t.Error(e)
	}
	for i, want := range []int{0, 6, 9} {
		if n := w.Round(); n != want {
			t.Error(i, n)
		}
	}
	h := w.History()
	if !w.Busy(0) || len(h) != 1 || h[0].Begin != 1 || h[0].End != 0 || h[0].First != 0 {
		t.Error(h)
	}
	for i, want := range []int{7, 4} {
		if n := w.Round(); n != want {
			t.Error(i, n)
		}
	}
	h = w.History()
	if w.Busy(0) || len(h) != 1 || h[0].Code != api.OK || h[0].Version != 1 || h[0].End == 0 || h[0].First != 1<<20+1 || h[0].Last != h[0].First {
		t.Error(h)
	}
	if o := w.Order(); len(o) != 1 || o[0].Kind != api.ReqPut || o[0].Version != 1 {
		t.Error(o)
	}
}

// Nil and zero worlds.
func TestNone(t *testing.T) {
	for _, w := range []*World{nil, {}} {
		for i, e := range []api.Errno{
			w.Ask(9, api.Deed{}), w.Tick(9), w.Deliver(0), w.Drop(0), w.Twice(0), w.Feed(api.Packet{}), w.Arm(9, -1), w.Crash(9, -1), w.Restart(9),
		} {
			if e != api.ErrNil {
				t.Error(i, e)
			}
		}
		if _, e := w.At(0); e != api.ErrNil {
			t.Error(e)
		}
		if w.Round() != 0 || w.Heal(5) != 0 || w.Nodes() != nil || w.Up(0) || w.Busy(0) || w.Conf(0).Chain != nil || w.Last(10) != 0 || w.Table(10) != nil ||
			w.Epoch(0) != 0 || w.Mode() != nil || w.Len() != 0 || w.Step() != 0 || w.Rows() != nil || w.History() != nil || w.Order() != nil {
			t.Error("is something")
		}
	}
}

// P23.1: New.
func TestNew(t *testing.T) {
	for i, c := range [][3]int{{0, 1, 1}, {5, 1, 1}, {-1, 1, 1}, {2, 0, 1}, {2, 3, 1}, {1, 1, 0}, {1, 1, 1001}} {
		if w, e := New(c[0], c[1], c[2], false, nil); w != nil || e != api.ErrArg {
			t.Error(i, e)
		}
	}
	if w, e := New(1, 1, 1, true, make([]byte, 1001)); w != nil || e != api.ErrArg {
		t.Error(e)
	}
	w, e := New(4, 3, 1000, true, make([]byte, 1000))
	if e != api.OK || w.Mode().IsReal() || !slices.Equal(w.Nodes(), []int{0, 1, 2, 10, 11, 12, 13, 20, 21, 22}) {
		t.Error(e, w.Nodes())
	}
	for _, id := range w.Nodes() {
		if !w.Up(id) {
			t.Error(id)
		}
	}
	for _, id := range []int{-1, 3, 9, 14, 19, 23} {
		if w.Up(id) {
			t.Error(id)
		}
	}
	if !made(t, 1, 1, 1, false).Mode().IsReal() {
		t.Error("real")
	}
}

// P23.2, P23.3, P23.4: calls that may not be; each is a step.
func TestInvalid(t *testing.T) {
	w := made(t, 2, 1, 5, false)
	step := 0
	expect := func(e, want api.Errno) {
		t.Helper()
		step++
		if e != want || w.Step() != step {
			t.Errorf("%d, not %d; step %d, not %d", e, want, w.Step(), step)
		}
	}
	for _, c := range []int{-1, 3, 20} {
		expect(w.Ask(c, api.Deed{}), api.ErrRange)
	}
	expect(w.Ask(0, api.Deed{}), api.ErrArg)
	expect(w.Ask(0, put("k", string(make([]byte, 251)))), api.ErrSize)
	for _, id := range []int{-1, 3, 12, 23} {
		expect(w.Tick(id), api.ErrRange)
		expect(w.Arm(id, -1), api.ErrRange)
		expect(w.Crash(id, -1), api.ErrRange)
		expect(w.Restart(id), api.ErrRange)
	}
	for _, k := range []int{-1, 0, 5} {
		expect(w.Deliver(k), api.ErrRange)
		expect(w.Drop(k), api.ErrRange)
		expect(w.Twice(k), api.ErrRange)
	}
	expect(w.Feed(api.Packet{}), api.ErrArg)
	expect(w.Feed(api.Packet{Kind: api.PkAsk, From: 20, To: 0}), api.ErrArg)
	expect(w.Feed(api.Packet{Kind: api.PkAns, From: 10, To: 20}), api.ErrArg)
	expect(w.Restart(0), api.ErrState)
	expect(w.Arm(0, -1), api.ErrArg)
	expect(w.Crash(20, -1), api.ErrArg)
	expect(w.Crash(20, 0), api.OK)
	expect(w.Crash(20, -1), api.ErrDown)
	expect(w.Ask(0, api.Deed{}), api.ErrDown)
	expect(w.Tick(20), api.ErrDown)
	expect(w.Arm(20, -1), api.ErrDown)
	expect(w.Feed(api.Packet{Kind: api.PkConf, From: 0, To: 20, Conf: api.Config{Num: 9, Full: 1, Chain: []int{10}}}), api.OK)
	if w.Up(20) || w.Busy(0) || w.Epoch(0) != 0 {
		t.Error("up")
	}
	expect(w.Restart(20), api.OK)
	expect(w.Ask(0, get("k")), api.OK)
	expect(w.Ask(0, get("k")), api.ErrState)
	if w.At(0); w.Len() != 0 || len(w.Rows()) != 0 || len(w.History()) != 1 {
		t.Error(w.Len())
	}
	if p, e := w.At(0); e != api.ErrRange || !pack.Same(p, api.Packet{}) {
		t.Error(e)
	}
}

// P23.2: the rows of the history.
func TestHistory(t *testing.T) {
	w := made(t, 1, 1, 5, false)
	does(t, w, 0, put("k", "v"))
	h := does(t, w, 1, get("k"))
	if h.Client != 1 || h.Num != 1 || h.Kind != api.OpGet || string(h.Key) != "k" || string(h.Value) != "v" || h.Tomb || h.Version != 1 || h.Code != api.OK || h.Begin == 0 || h.End <= h.Begin || h.First != 1<<20+1 {
		t.Errorf("%+v", h)
	}
	h = does(t, w, 0, api.Deed{Kind: api.OpPutIf, Key: k, Value: []byte("x"), Want: 7})
	if h.Num != 2 || h.Code != api.ErrVersion || h.Version != 1 || string(h.Value) != "x" || h.Want != 7 {
		t.Errorf("%+v", h)
	}
	h = does(t, w, 2, api.Deed{Kind: api.OpDelete, Key: k})
	if h.Version != 2 || h.Tomb || h.Code != api.OK {
		t.Errorf("%+v", h)
	}
	h = does(t, w, 2, get("k"))
	if h.Num != 2 || h.Code != api.ErrNone || !h.Tomb || h.Version != 2 {
		t.Errorf("%+v", h)
	}
	w.Ask(2, put("k", "z"))
	w.Heal(0)
	w.Tick(22)
	first := 1<<20 + 4
	w.Crash(22, 0)
	all := w.History()
	h = all[len(all)-1]
	if h.End != 0 || h.First != first || h.Last != first || h.Code != api.OK {
		t.Errorf("%+v", h)
	}
	w.Restart(22)
	h = does(t, w, 2, get("k"))
	if h.Num != 4 || h.First != 2<<20+1 {
		t.Errorf("%+v", h)
	}
}

// P23.3, P23.6: packets under way.
func TestPackets(t *testing.T) {
	w := made(t, 1, 1, 5, false)
	w.Tick(10)
	if p, e := w.At(2); e != api.OK || p.Kind != api.PkAlive || p.To != 2 || w.Len() != 3 {
		t.Error(p, e)
	}
	if w.Twice(0) != api.OK || w.Drop(1) != api.OK || w.Deliver(0) != api.OK || w.Len() != 2 {
		t.Error(w.Len())
	}
	if p, _ := w.At(1); p.To != 0 {
		t.Error(p)
	}
	w.Crash(0, 0)
	rows := len(w.Rows())
	if w.Deliver(1) != api.OK || w.Len() != 1 || len(w.Rows()) != rows {
		t.Error("a packet to a node that is down is lost")
	}
	for w.Len() > 0 {
		w.Drop(0)
	}
	for range 700 {
		w.Tick(10)
	}
	if w.Len() != 2000 {
		t.Error(w.Len())
	}
	if w.Twice(0) != api.ErrLimit || w.Round() != 2000 {
		t.Error("a full net")
	}
}

// P23.4: disks that fail, and nodes that start again.
func TestFail(t *testing.T) {
	w := made(t, 1, 1, 5, false)
	does(t, w, 0, put("k", "v"))
	w.Ask(0, put("k", "w"))
	w.Arm(10, 1000)
	for range 5 {
		w.Round()
	}
	if w.Up(10) || w.Last(10) != 0 || w.Table(10) != nil || w.Conf(10).Chain != nil || !w.Busy(0) {
		t.Error("up")
	}
	if len(w.Order()) != 1 {
		t.Error(w.Order())
	}
	if e := w.Restart(10); e != api.OK || w.Last(10) != 2 || len(w.Order()) != 1 {
		t.Error(e, w.Last(10))
	}
	w.Tick(10)
	if len(w.Order()) != 2 {
		t.Error("what was written is executed")
	}
	w.Heal(100)
	if h := w.History(); h[1].Code != api.OK || h[1].Version != 2 {
		t.Error(h[1])
	}
	w.Arm(20, 0)
	w.Ask(0, put("k", "x"))
	for range 5 {
		w.Round()
	}
	h := w.History()[2]
	if w.Up(20) || h.End != 0 || h.First == 0 || h.Last != h.First {
		t.Error(h)
	}
	w.Arm(1, 0)
	if n := w.Heal(7); n != 0 || !w.Up(20) {
		t.Error("Heal", n)
	}
	got := does(t, w, 0, get("k"))
	if string(got.Value) != "x" || got.Version != 3 {
		t.Errorf("%+v", got)
	}
}

// Rows: what arrives, what is sent, what is written, in that order, with the step.
func TestRows(t *testing.T) {
	w := made(t, 2, 2, 5, false)
	w.Tick(20)
	w.Tick(0)
	if len(w.Rows()) != 0 {
		t.Error(w.Rows())
	}
	w.Ask(0, put("k", "v"))
	w.Feed(api.Packet{Kind: api.PkConf, From: 0, To: 20, Conf: api.Config{Full: 2, Chain: []int{10, 11}}})
	w.Tick(20)
	w.Deliver(0)
	rows := w.Rows()
	step := w.Step()
	if len(rows) != 3 {
		t.Fatal(rows)
	}
	for i, kind := range []int{api.RowCame, api.RowWent, api.RowWrote} {
		if rows[i].Kind != kind || rows[i].Node != 10 || rows[i].Step != step {
			t.Error(i, rows[i])
		}
	}
	came, e := pack.Parse(rows[0].Bytes)
	if e != api.OK || came.Kind != api.PkReq || came.Req.Version != 1 {
		t.Error(came, e)
	}
	went, e := pack.Parse(rows[1].Bytes)
	if e != api.OK || went.Kind != api.PkPut || !bytes.Contains(rows[2].Bytes, went.Req.Env) {
		t.Error(went, e)
	}
	w.Arm(11, 3)
	w.Deliver(0)
	if wrote := count(w, api.RowWrote, 10); wrote != 1 {
		t.Error("what was written has one row", wrote)
	}
	rows = w.Rows()[3:]
	if w.Up(11) || len(rows) != 2 || rows[0].Kind != api.RowCame || rows[1].Kind != api.RowWrote || rows[1].Node != 11 {
		t.Error(rows)
	}
	w.Restart(11)
	if len(w.Rows()) != 5 {
		t.Error("a restart writes nothing")
	}
	w.Feed(api.Packet{Kind: api.PkConf, From: 0, To: 21, Conf: api.Config{Num: 9, Full: 1, Chain: []int{13}}})
	w.Ask(1, get("k"))
	w.Tick(21)
	if p, _ := w.At(w.Len() - 1); p.To != 13 {
		t.Error(p)
	}
	w.Deliver(w.Len() - 1)
	if len(w.Rows()) != 5 {
		t.Error("no node, no row")
	}
}

// count is how many rows of a kind a node has.
func count(w *World, kind, node int) int {
	n := 0
	for _, r := range w.Rows() {
		if r.Kind == kind && r.Node == node {
			n++
		}
	}
	return n
}

// Rows are those of servers alone, one for each thing that was written.
func TestWritten(t *testing.T) {
	w := made(t, 1, 1, 5, false)
	for n := 1; n <= 3; n++ {
		does(t, w, 0, put("k", "v"))
		if wrote := count(w, api.RowWrote, 10); wrote != n {
			t.Error(n, wrote)
		}
	}
	for _, r := range w.Rows() {
		if r.Node >= 20 {
			t.Error(r)
		}
	}
}

// P23.2: a tick in which a disk fails.
func TestTickDown(t *testing.T) {
	w := made(t, 1, 1, 5, false)
	for w.Last(10) < 31 {
		does(t, w, 0, get("k"))
	}
	w.Feed(api.Packet{Kind: api.PkConf, From: 0, To: 21, Conf: api.Config{Full: 1, Chain: []int{10}}})
	w.Ask(1, get("k"))
	w.Tick(21)
	w.Deliver(w.Len() - 1)
	w.Arm(10, 0)
	if e := w.Tick(10); w.Last(10) != 0 || e != api.ErrDown || w.Up(10) {
		t.Error(e)
	}
	if e := w.Restart(10); e != api.OK || w.Last(10) != 32 {
		t.Error(e, w.Last(10))
	}
}

// P23.2: an operation that ends as soon as it is given.
func TestAtOnce(t *testing.T) {
	w := made(t, 1, 1, 5, true)
	name, _ := w.Mode().Name(k)
	env, e := seal.Seal(w.Mode(), tape.New(nil), name, api.MaxNumber, 0, nil, false)
	if e != api.OK {
		t.Fatal(e)
	}
	w.Ask(0, get("k"))
	w.Feed(api.Packet{Kind: api.PkAns, From: 10, To: 20, Ans: api.Ans{Num: 1<<20 + 1, Version: api.MaxNumber, Name: name, Env: env}})
	if h := w.History(); h[0].Code != api.OK || h[0].Version != api.MaxNumber || h[0].End != 2 {
		t.Error(h)
	}
	if e := w.Ask(0, put("k", "v")); e != api.OK || w.Busy(0) {
		t.Error(e)
	}
	if h := w.History()[1]; h.Code != api.ErrLimit || h.Num != 2 || h.Begin != 3 || h.End != 3 || h.First != 0 || h.Last != 0 {
		t.Error(h)
	}
}

// P23.1: for how long a client waits.
func TestMost(t *testing.T) {
	w := made(t, 1, 1, 3, true)
	w.Ask(0, get("k"))
	for n := range 261 {
		if !w.Busy(0) {
			t.Fatal("too early", n)
		}
		w.Tick(20)
	}
	if h := w.History()[0]; w.Busy(0) || h.Code != api.ErrTime || h.End != 262 || h.First != 1<<20+1 {
		t.Error(h)
	}
}

// P23.4: a node that can't be made from its disk stays down.
func TestSpoilt(t *testing.T) {
	w := made(t, 1, 1, 5, true)
	w.Crash(10, 0)
	w.Crash(21, 0)
	for _, id := range []int{10, 21} {
		x, _ := w.part(id)
		x.storage().Revive()
		x.storage().Swap([]byte{0x80, 0x80, 0x80, 0x80})
	}
	if e := w.Restart(10); e != api.ErrSpoil || w.Up(10) {
		t.Error(e)
	}
	if e := w.Restart(21); e != api.ErrForm || w.Up(21) || w.Busy(1) {
		t.Error(e)
	}
	if w.Heal(5) != 0 || w.Up(10) {
		t.Error("healed")
	}
}

// P23.5: Round and Heal.
func TestHeal(t *testing.T) {
	w := made(t, 3, 2, 5, true)
	for _, id := range w.Nodes() {
		w.Crash(id, 0)
	}
	if w.Round() != 0 || w.Heal(9) != 0 {
		t.Error("nobody is busy")
	}
	for _, id := range w.Nodes() {
		if !w.Up(id) {
			t.Error(id)
		}
	}
	step := w.Step()
	w.Round()
	if w.Step() != step+9 {
		t.Error(w.Step() - step)
	}
	n := w.Len()
	step = w.Step()
	if w.Round() != n || w.Step() != step+9+n {
		t.Error(w.Step() - step)
	}
	w.Ask(0, get("k"))
	w.Arm(10, 0)
	if w.Heal(2) != 2 || !w.Busy(0) || w.Heal(-1) != 0 || w.Heal(100) != 4 || w.Busy(0) || !w.Up(10) {
		t.Error(w.Busy(0))
	}
}

// P23.6: what is shown of nodes.
func TestShown(t *testing.T) {
	w := made(t, 2, 2, 5, true)
	does(t, w, 1, api.Deed{Kind: api.OpRotate})
	does(t, w, 1, put("k", "v"))
	if w.Epoch(1) != 1 || w.Epoch(0) != 0 || w.Epoch(21) != 0 || w.Busy(-1) {
		t.Error(w.Epoch(1))
	}
	first := api.Config{Full: 2, Chain: []int{10, 11}}
	for id, want := range map[int]api.Config{0: first, 2: first, 10: first, 11: first, 12: {}, 20: {}, -1: {}} {
		if !same(w.Conf(id), want) {
			t.Error(id, w.Conf(id))
		}
	}
	b, e := table.Open(w.Table(11))
	if e != api.OK || b.Epoch() != 1 || len(b.Names()) != 1 || w.Last(11) != len(w.Order()) || w.Last(0) != 0 || w.Table(0) != nil || w.Table(20) != nil {
		t.Error(e)
	}
}

// P23.7: memory.
func TestMemory(t *testing.T) {
	w := made(t, 1, 1, 5, true)
	x := put("k", "value")
	w.Ask(0, x)
	clear(x.Key)
	clear(x.Value)
	w.Heal(100)
	h := w.History()
	if string(h[0].Key) != "k" || string(h[0].Value) != "value" {
		t.Error(h)
	}
	clear(h[0].Key)
	clear(h[0].Value)
	clear(w.Rows()[0].Bytes)
	clear(w.Order()[0].Env)
	clear(w.Table(10))
	clear(w.Nodes())
	if h = w.History(); string(h[0].Key) != "k" || string(h[0].Value) != "value" || w.Rows()[0].Bytes[0] == 0 || w.Order()[0].Env[5] == 0 && w.Order()[0].Env[6] == 0 {
		t.Error("shared")
	}
	if got := does(t, w, 1, get("k")); string(got.Value) != "value" {
		t.Error(got)
	}
}
