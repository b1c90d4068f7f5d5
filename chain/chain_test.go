package chain

import (
	"bytes"
	"slices"
	"testing"

	"sealchain/api"
	"sealchain/disk"
	"sealchain/num"
	"sealchain/pack"
	"sealchain/table"
	"sealchain/wal"
)

var env = bytes.Repeat([]byte{7}, 45)

func made(t *testing.T, id, first int, d *disk.Disk) *Replica {
	t.Helper()
	r, e := New(id, first, d)
	if e != api.OK {
		t.Fatal(id, e)
	}
	return r
}

func conf(n, full int, chain ...int) api.Config {
	return api.Config{Num: n, Full: full, Chain: chain}
}

func get(client, n int) api.Req { return api.Req{Client: client, Num: n, Kind: api.ReqGet} }

func same(c, d api.Config) bool {
	return c.Num == d.Num && c.Full == d.Full && slices.Equal(c.Chain, d.Chain)
}

// handles compares what is sent.
func handles(t *testing.T, r *Replica, p api.Packet, want ...api.Packet) {
	t.Helper()
	out, e := r.Handle(p)
	if e != api.OK || !slices.EqualFunc(out, want, pack.Same) {
		t.Errorf("%d: %v, not %v", e, out, want)
	}
	for _, p := range out {
		if pack.Check(p) != api.OK {
			t.Errorf("not valid: %v", p)
		}
	}
}

func req(to int, q api.Req) api.Packet {
	return api.Packet{Kind: api.PkReq, From: 20 + q.Client, To: to, Req: q}
}

func put(from, to, n, seq int, q api.Req) api.Packet {
	return api.Packet{Kind: api.PkPut, From: from, To: to, Num: n, Seq: seq, Req: q}
}

func have(from, to, n, seq int) api.Packet {
	return api.Packet{Kind: api.PkHave, From: from, To: to, Num: n, Seq: seq}
}

func ack(from, to, n, seq int) api.Packet {
	return api.Packet{Kind: api.PkAck, From: from, To: to, Num: n, Seq: seq}
}

func given(from, to, n, seq int, b []byte) api.Packet {
	return api.Packet{Kind: api.PkState, From: from, To: to, Num: n, Seq: seq, Bytes: b}
}

func told(to int, c api.Config) api.Packet { return api.Packet{Kind: api.PkConf, To: to, Conf: c} }

func answer(from int, a api.Ans) api.Packet {
	return api.Packet{Kind: api.PkAns, From: from, To: 20 + a.Client, Ans: a}
}

func stands(t *testing.T, r *Replica, has bool, base, last, acked int) {
	t.Helper()
	if r.Has() != has || r.Base() != base || r.Last() != last || r.Acked() != acked || len(r.Entries()) != last-base || (r.Table() != nil) != has {
		t.Errorf("has %v base %d last %d acked %d", r.Has(), r.Base(), r.Last(), r.Acked())
	}
}

// The chapter's examples.
func TestExamples(t *testing.T) {
	a, b := made(t, 10, 2, disk.New()), made(t, 11, 2, disk.New())
	q := get(0, 1)
	handles(t, a, req(10, q), put(10, 11, 0, 1, q))
	stands(t, a, true, 0, 1, 0)
	handles(t, b, put(10, 11, 0, 1, q), answer(11, api.Ans{Num: 1, Code: 1}), ack(11, 10, 0, 1))
	handles(t, a, ack(11, 10, 0, 1))
	stands(t, a, true, 0, 1, 1)
	out, e := b.Tick()
	alive := api.Packet{Kind: api.PkAlive, From: 11, Ready: true}
	want := []api.Packet{alive, alive, alive, have(11, 10, 0, 1), ack(11, 10, 0, 1)}
	want[1].To, want[2].To = 1, 2
	if e != api.OK || !slices.EqualFunc(out, want, pack.Same) {
		t.Error(out, e)
	}
}

// Nil and zero replicas.
func TestNone(t *testing.T) {
	for _, r := range []*Replica{nil, {}} {
		if out, e := r.Handle(api.Packet{}); out != nil || e != api.ErrNil {
			t.Error(e)
		}
		if out, e := r.Tick(); out != nil || e != api.ErrNil {
			t.Error(e)
		}
		stands(t, r, false, 0, 0, 0)
		if !same(r.Conf(), api.Config{}) || r.Down() {
			t.Error("is something")
		}
	}
}

// P19.1: which replicas there are, and where they begin.
func TestNew(t *testing.T) {
	for _, c := range [][2]int{{9, 1}, {14, 1}, {10, 0}, {10, 5}, {-1, 1}} {
		if r, e := New(c[0], c[1], nil); r != nil || e != api.ErrArg {
			t.Error(c, e)
		}
	}
	if r, e := New(10, 1, nil); r != nil || e != api.ErrNil {
		t.Error(e)
	}
	r := made(t, 13, 4, disk.New())
	stands(t, r, true, 0, 0, 0)
	if !same(r.Conf(), conf(0, 4, 10, 11, 12, 13)) || !bytes.Equal(r.Table(), []byte{0, 0, 0}) || r.Down() {
		t.Error(r.Conf())
	}
	r = made(t, 12, 2, disk.New())
	stands(t, r, false, 0, 0, 0)
}

// P19.1: rows, and those that are invalid.
func TestRows(t *testing.T) {
	raw := func(w *num.Writer) []byte {
		b, _ := w.Bytes()
		return b
	}
	c := func(n, full int, chain ...int) []byte {
		b, _ := confRow(conf(n, full, chain...))
		return b
	}
	entry := func(n int) []byte {
		b, _ := entryRow(n, get(1, n))
		return b
	}
	snap := func(c api.Config, has, base int, b []byte) []byte {
		part, _ := pack.BytesConf(c)
		return raw(num.Write().Num(1, 3).Text(part).Num(1, has).Count(base).Text(b))
	}
	full := table.New().Bytes()
	odd, _ := pack.BytesReq(api.Req{Num: 1, Kind: api.ReqPut, Version: 1, Env: []byte{1}})
	good := []struct {
		rows            [][]byte
		has             bool
		base, last, num int
	}{
		{nil, true, 0, 0, 0},
		{[][]byte{entry(1), entry(2)}, true, 0, 2, 0},
		{[][]byte{entry(1), c(3, 2, 11, 10)}, true, 0, 1, 3},
		{[][]byte{entry(1), c(3, 1, 11, 10)}, false, 0, 0, 3},
		{[][]byte{entry(1), c(3, 1, 11)}, false, 0, 0, 3},
		{[][]byte{entry(1), c(3, 1, 11), c(4, 1, 10)}, false, 0, 0, 4},
		{[][]byte{c(3, 1, 11), snap(conf(3, 1, 11, 10), 1, 40, full), entry(41)}, true, 40, 41, 3},
		{[][]byte{snap(conf(0, 1, 11, 10), 0, 0, nil)}, false, 0, 0, 0},
		{[][]byte{snap(conf(9, 1, 11, 10), 1, 5, full), snap(conf(2, 1, 11), 1, 3, full)}, true, 3, 3, 2},
	}
	for i, x := range good {
		d := disk.New()
		l, _ := wal.Open(d)
		l.Add(x.rows...)
		r, e := New(10, 2, d)
		if e != api.OK {
			t.Error(i, e)
			continue
		}
		stands(t, r, x.has, x.base, x.last, 0)
		if r.Conf().Num != x.num {
			t.Error(i, r.Conf())
		}
	}
	for i, rows := range [][][]byte{
		{{}}, {{0}}, {{4}}, {{1}}, {{2}}, {{3}},
		{append(c(1, 1, 10), 0)},
		{c(0, 1, 10)},
		{c(2, 1, 10), c(2, 1, 10)},
		{raw(num.Write().Num(1, 1).Text([]byte{1, 1, 0}))},
		{entry(2)},
		{entry(1), entry(1)},
		{append(entry(1), 0)},
		{c(1, 1, 11), entry(1)},
		{raw(num.Write().Num(1, 2).Count(1).Text(odd))},
		{raw(num.Write().Num(1, 2).Count(1).Text([]byte{9}))},
		{snap(conf(1, 1, 10), 2, 5, full)},
		{snap(conf(1, 1, 10), 2, 0, nil)},
		{snap(conf(1, 1, 10), 0, 0, []byte{0})},
		{snap(conf(1, 1, 10), 1, 5, []byte{0})},
		{snap(conf(1, 1, 10), 0, 5, nil)},
		{snap(conf(1, 1, 10), 0, 0, full)},
		{append(snap(conf(1, 1, 10), 1, 5, full), 0)},
		{snap(api.Config{}, 1, 5, full)},
	} {
		d := disk.New()
		l, _ := wal.Open(d)
		l.Add(rows...)
		if r, e := New(10, 2, d); r != nil || e != api.ErrSpoil {
			t.Error(i, e)
		}
	}
}

// P19.2: packets that may not be, and those without an effect.
func TestHandleInvalid(t *testing.T) {
	r := made(t, 11, 3, disk.New())
	for i, p := range []api.Packet{
		{},
		req(10, get(0, 1)),
		{Kind: api.PkAck, From: 11, To: 11},
		{Kind: api.PkAsk, From: 20, To: 11, Num: 1},
		{Kind: api.PkConf, To: 11},
	} {
		if out, e := r.Handle(p); out != nil || e != api.ErrArg {
			t.Error(i, e)
		}
	}
	q := get(0, 1)
	for _, p := range []api.Packet{
		req(11, q),
		put(10, 11, 1, 1, q),
		put(12, 11, 0, 1, q),
		put(20, 11, 0, 1, q),
		put(10, 11, 0, 0, q),
		put(10, 11, 0, 1, api.Req{Num: 1, Kind: api.ReqPut, Version: 1, Env: []byte{1}}),
		ack(10, 11, 0, 1),
		ack(12, 11, 1, 1),
		have(10, 11, 0, 0),
		have(12, 11, 1, 0),
		have(12, 11, 0, 0),
		have(12, 11, 0, 7),
		given(12, 11, 0, 5, table.New().Bytes()),
		given(10, 11, 1, 5, table.New().Bytes()),
		given(10, 11, 0, 0, table.New().Bytes()),
		given(10, 11, 0, 5, []byte{1}),
		told(11, conf(0, 1, 11)),
		{Kind: api.PkConf, From: 10, To: 11, Conf: conf(5, 1, 11)},
		{Kind: api.PkConf, From: 20, To: 11, Conf: conf(5, 1, 11)},
		{Kind: api.PkAlive, From: 10, To: 11},
		{Kind: api.PkPrep, From: 1, To: 11, Ballot: 1, Seq: 1},
	} {
		handles(t, r, p)
		stands(t, r, true, 0, 0, 0)
	}
	head := made(t, 10, 2, disk.New())
	handles(t, head, api.Packet{Kind: api.PkReq, From: 21, To: 10, Req: q})
	handles(t, head, api.Packet{Kind: api.PkReq, From: 20, To: 10, Req: api.Req{Num: 1, Kind: api.ReqPut, Version: 1, Env: []byte{1}}})
	stands(t, head, true, 0, 0, 0)
	outside := made(t, 12, 2, disk.New())
	handles(t, outside, req(12, q))
	handles(t, outside, put(11, 12, 0, 1, q))
}

// P19.2: PkReq at the head of a chain, and of a chain of one.
func TestRequest(t *testing.T) {
	one := made(t, 10, 1, disk.New())
	q := api.Req{Client: 2, Num: 4, Kind: api.ReqPut, Version: 1, Name: api.Name{5}, Env: env}
	handles(t, one, req(10, q), answer(10, api.Ans{Client: 2, Num: 4, Version: 1, Name: api.Name{5}}))
	handles(t, one, req(10, q), answer(10, api.Ans{Client: 2, Num: 4, Version: 1, Name: api.Name{5}}))
	stands(t, one, true, 0, 2, 2)
	head := made(t, 10, 2, disk.New())
	for n := 1; n <= 32; n++ {
		handles(t, head, req(10, get(1, n)), put(10, 11, 0, n, get(1, n)))
	}
	handles(t, head, req(10, get(1, 33)))
	handles(t, head, ack(11, 10, 0, 1))
	handles(t, head, req(10, get(1, 33)), put(10, 11, 0, 33, get(1, 33)))
	stands(t, head, true, 0, 33, 1)
	handles(t, head, ack(11, 10, 0, 99))
	stands(t, head, true, 0, 33, 33)
	handles(t, head, ack(11, 10, 0, 5))
	stands(t, head, true, 0, 33, 33)
}

// P19.2: PkPut in the middle, and at the tail.
func TestPut(t *testing.T) {
	middle, tail := made(t, 11, 3, disk.New()), made(t, 12, 3, disk.New())
	handles(t, middle, put(10, 11, 0, 2, get(0, 2)), have(11, 10, 0, 0))
	handles(t, middle, put(10, 11, 0, 1, get(0, 1)), put(11, 12, 0, 1, get(0, 1)))
	handles(t, middle, put(10, 11, 0, 1, get(0, 1)))
	stands(t, middle, true, 0, 1, 0)
	handles(t, tail, put(11, 12, 0, 3, get(0, 1)), have(12, 11, 0, 0), ack(12, 11, 0, 0))
	handles(t, tail, put(11, 12, 0, 1, get(0, 1)), answer(12, api.Ans{Num: 1, Code: 1}), ack(12, 11, 0, 1))
	handles(t, tail, put(11, 12, 0, 1, get(0, 1)), have(12, 11, 0, 1), ack(12, 11, 0, 1))
	handles(t, middle, ack(12, 11, 0, 1), ack(11, 10, 0, 1))
	handles(t, middle, ack(12, 11, 0, 0), ack(11, 10, 0, 1))
	stands(t, middle, true, 0, 1, 1)
	handles(t, middle, have(12, 11, 0, 0), put(11, 12, 0, 1, get(0, 1)))
	handles(t, middle, have(12, 11, 0, -1), given(11, 12, 0, 1, middle.Table()))
	lost := made(t, 13, 2, disk.New())
	handles(t, lost, told(13, conf(1, 2, 10, 11, 13)), have(13, 11, 1, -1))
	handles(t, lost, put(11, 13, 1, 1, get(0, 1)), have(13, 11, 1, -1))
	stands(t, lost, false, 0, 0, 0)
}

// P19.2: PkConf.
func TestConf(t *testing.T) {
	d := disk.New()
	r := made(t, 10, 2, d)
	handles(t, r, req(10, get(0, 1)), put(10, 11, 0, 1, get(0, 1)))
	handles(t, r, ack(11, 10, 0, 1))
	handles(t, r, told(10, conf(2, 2, 11, 10)), have(10, 11, 2, 1), ack(10, 11, 2, 1))
	stands(t, r, true, 0, 1, 1)
	handles(t, r, told(10, conf(1, 1, 12)))
	handles(t, r, told(10, conf(2, 1, 12)))
	handles(t, r, put(11, 10, 0, 2, get(0, 2)))
	if !same(r.Conf(), conf(2, 2, 11, 10)) {
		t.Error(r.Conf())
	}
	handles(t, r, told(10, conf(3, 1, 10)))
	stands(t, r, true, 0, 1, 1)
	handles(t, r, told(10, conf(4, 1, 11)))
	stands(t, r, false, 0, 0, 0)
	handles(t, r, told(10, conf(5, 1, 11, 10)), have(10, 11, 5, -1))
	again := made(t, 10, 2, d)
	stands(t, again, false, 0, 0, 0)
	if !same(again.Conf(), conf(5, 1, 11, 10)) {
		t.Error(again.Conf())
	}
	alone := made(t, 10, 2, disk.New())
	handles(t, alone, req(10, get(0, 1)), put(10, 11, 0, 1, get(0, 1)))
	handles(t, alone, told(10, conf(7, 1, 10)))
	stands(t, alone, true, 0, 1, 1)
}

// P19.2: PkState.
func TestState(t *testing.T) {
	b := table.New()
	b.Do(api.Req{Num: 3, Kind: api.ReqPut, Version: 1, Env: env})
	d := disk.New()
	r := made(t, 12, 2, d)
	handles(t, r, told(12, conf(1, 1, 10, 12)), have(12, 10, 1, -1))
	handles(t, r, given(10, 12, 1, 7, []byte{9}))
	stands(t, r, false, 0, 0, 0)
	handles(t, r, given(10, 12, 1, 7, b.Bytes()), have(12, 10, 1, 7), ack(12, 10, 1, 7))
	stands(t, r, true, 7, 7, 7)
	if !bytes.Equal(r.Table(), b.Bytes()) {
		t.Error(r.Table())
	}
	handles(t, r, given(10, 12, 1, 7, table.New().Bytes()))
	handles(t, r, put(10, 12, 1, 8, get(1, 1)), answer(12, api.Ans{Client: 1, Num: 1, Version: 1, Env: env}), ack(12, 10, 1, 8))
	handles(t, r, given(10, 12, 1, 8, table.New().Bytes()))
	handles(t, r, given(10, 12, 1, 9, table.New().Bytes()), have(12, 10, 1, 9), ack(12, 10, 1, 9))
	stands(t, r, true, 9, 9, 9)
	stands(t, made(t, 12, 2, d), true, 9, 9, 0)
	// The last number that there is: nothing can follow it.
	handles(t, r, given(10, 12, 1, api.MaxNumber-1, b.Bytes()), have(12, 10, 1, api.MaxNumber-1), ack(12, 10, 1, api.MaxNumber-1))
	handles(t, r, told(12, conf(2, 1, 12)))
	handles(t, r, req(12, get(1, 9)))
	stands(t, r, true, api.MaxNumber-1, api.MaxNumber-1, api.MaxNumber-1)
}

// P19.2: a tick compacts.
func TestCompact(t *testing.T) {
	one := made(t, 10, 1, disk.New())
	for n := 1; n <= 16; n++ {
		one.Tick()
		stands(t, one, true, 0, n-1, n-1)
		one.Handle(req(10, get(0, n)))
	}
	out, _ := one.Tick()
	stands(t, one, true, 16, 16, 16)
	if len(out) != 3 || !out[2].Ready || out[2].To != 2 {
		t.Error(out)
	}
	for n := 17; n <= 32; n++ {
		one.Tick()
		stands(t, one, true, 16, n-1, n-1)
		one.Handle(req(10, get(0, n)))
	}
	one.Tick()
	stands(t, one, true, 32, 32, 32)
	d := disk.New()
	middle := made(t, 11, 3, d)
	for n := 1; n <= 48; n++ {
		middle.Tick()
		stands(t, middle, true, 0, n-1, 0)
		middle.Handle(put(10, 11, 0, n, get(0, n)))
	}
	out, _ = middle.Tick()
	stands(t, middle, true, 48, 48, 0)
	if len(out) != 4 || !pack.Same(out[3], have(11, 10, 0, 48)) {
		t.Error(out)
	}
	l, _ := wal.Open(d)
	if l.Len() != 1 {
		t.Error(l.Len())
	}
	outside := made(t, 13, 2, disk.New())
	out, _ = outside.Tick()
	if len(out) != 3 || out[0].Ready || out[0].Kind != api.PkAlive {
		t.Error(out)
	}
}

// P19.2, P19.3: a disk that fails.
func TestDown(t *testing.T) {
	d := disk.New()
	r := made(t, 10, 1, d)
	d.Arm(0)
	if out, e := r.Handle(req(10, get(0, 1))); out != nil || e != api.ErrDown || !r.Down() {
		t.Error(e)
	}
	if out, e := r.Handle(api.Packet{}); out != nil || e != api.ErrDown {
		t.Error(e)
	}
	if out, e := r.Tick(); out != nil || e != api.ErrDown {
		t.Error(e)
	}
	d.Revive()
	r = made(t, 10, 1, d)
	for n := 1; n <= 16; n++ {
		r.Handle(req(10, get(0, n)))
	}
	d.Arm(0)
	if out, e := r.Tick(); out != nil || e != api.ErrDown {
		t.Error(e)
	}
	d.Revive()
	stands(t, made(t, 10, 1, d), true, 0, 16, 0)
}

// P19.4: memory.
func TestMemory(t *testing.T) {
	r := made(t, 10, 2, disk.New())
	q := api.Req{Num: 1, Kind: api.ReqPut, Version: 1, Env: bytes.Clone(env)}
	out, _ := r.Handle(req(10, q))
	clear(q.Env)
	clear(out[0].Req.Env)
	clear(r.Entries()[0].Env)
	clear(r.Table())
	out, _ = r.Handle(have(11, 10, 0, 0))
	clear(out[0].Req.Env)
	c := conf(1, 1, 10)
	r.Handle(told(10, c))
	c.Chain[0] = 13
	r.Conf().Chain[0] = 13
	if !bytes.Equal(r.Entries()[0].Env, env) || !same(r.Conf(), conf(1, 1, 10)) || len(r.Table()) < 80 {
		t.Error(r.Entries(), r.Conf())
	}
}

// system is a few replicas whose packets are lost, doubled and late, and whose disks fail.
type system struct {
	t        *testing.T
	seed     uint32
	disks    map[int]*disk.Disk
	replicas map[int]*Replica
	confs    []api.Config
	bag      []api.Packet
	answers  []api.Ans
}

func (s *system) next(n int) int {
	s.seed = s.seed*1664525 + 1013904223
	return int(s.seed>>8) % n
}

func newSystem(t *testing.T, seed uint32) *system {
	s := &system{t: t, seed: seed, disks: map[int]*disk.Disk{}, replicas: map[int]*Replica{}, confs: []api.Config{firstConf(3)}}
	for id := 10; id < 14; id++ {
		s.disks[id] = disk.New()
		s.replicas[id] = made(t, id, 3, s.disks[id])
	}
	return s
}

func (s *system) took(id int, out []api.Packet, e api.Errno) {
	if e == api.ErrDown {
		before := s.replicas[id]
		s.disks[id].Revive()
		after := made(s.t, id, 3, s.disks[id])
		if before.Conf().Num > after.Conf().Num || same(before.Conf(), after.Conf()) && before.Last() > after.Last() {
			s.t.Fatal("lost", before.Conf(), after.Conf())
		}
		s.replicas[id] = after
	}
	for _, p := range out {
		if p.Kind == api.PkAns {
			s.answers = append(s.answers, p.Ans)
			s.answered(id)
		}
		if p.To >= 10 && p.To < 20 {
			s.bag = append(s.bag, p)
		}
	}
}

// answered checks that what a tail has answered all replicas of its chain have.
func (s *system) answered(id int) {
	tail := s.replicas[id]
	for _, node := range tail.Conf().Chain {
		r := s.replicas[node]
		if same(r.Conf(), tail.Conf()) && (!r.Has() || r.Last() < tail.Last()) {
			s.t.Fatal("answered too early", id, node, r.Last(), tail.Last())
		}
	}
}

// check compares neighbours: a successor has at most the entries of its predecessor, and the same ones.
func (s *system) check() {
	for _, r := range s.replicas {
		next, is := r.successor()
		if !is || !same(s.replicas[next].Conf(), r.Conf()) || !r.Has() || !s.replicas[next].Has() {
			continue
		}
		o := s.replicas[next]
		if o.Last() > r.Last() {
			s.t.Fatal("more than the predecessor", r.id, r.Last(), next, o.Last())
		}
		for i, q := range o.Entries() {
			k := o.Base() + i - r.Base()
			if k >= 0 && k < len(r.Entries()) && !pack.Same(api.Packet{Req: q}, api.Packet{Req: r.Entries()[k]}) {
				s.t.Fatal("other entries")
			}
		}
		if o.Last() == r.Last() && !bytes.Equal(o.Table(), r.Table()) {
			s.t.Fatal("other tables")
		}
	}
}

// step lets something happen.
func (s *system) step(n int) {
	id := 10 + s.next(4)
	switch k := s.next(12); {
	case k < 2:
		out, e := s.replicas[id].Tick()
		s.took(id, out, e)
	case k < 4:
		q := api.Req{Client: s.next(3), Num: n, Kind: api.ReqPut, Version: 1 + s.next(3), Name: api.Name{byte(s.next(4))}, Env: env}
		out, e := s.replicas[id].Handle(req(id, q))
		s.took(id, out, e)
	case k == 4 && s.next(4) == 0:
		out, e := s.replicas[id].Handle(told(id, s.confs[s.next(len(s.confs))]))
		s.took(id, out, e)
	case k == 5 && s.next(15) == 0:
		s.disks[id].Arm(s.next(100))
	case len(s.bag) > 0:
		i := s.next(len(s.bag))
		p := s.bag[i]
		if s.next(10) > 0 {
			s.bag = slices.Delete(s.bag, i, i+1)
		}
		if s.next(10) > 0 {
			out, e := s.replicas[p.To].Handle(p)
			s.took(p.To, out, e)
		}
	}
}

// P19.5, P19.6, P19.7: whatever happens, in chains whose full replicas had the state before.
func TestReplication(t *testing.T) {
	answers := 0
	for seed := range uint32(20) {
		s := newSystem(t, seed*99)
		for n := 1; n < 3000; n++ {
			if n%150 == 0 {
				s.reconfigure()
			}
			s.step(n)
			s.check()
		}
		answers += len(s.answers)
	}
	if answers < 500 {
		t.Error("hardly anything is answered", answers)
	}
}

// reconfigure lets there be another chain, as masters would: the full ones knew the last one, and have the state.
func (s *system) reconfigure() {
	last := s.confs[len(s.confs)-1]
	var full, others []int
	for _, node := range last.Chain {
		r := s.replicas[node]
		if same(r.Conf(), last) && r.Has() && (len(full) == 0 || s.next(3) > 0) {
			full = append(full, node)
		}
	}
	if len(full) == 0 {
		return
	}
	for id := 10; id < 14; id++ {
		if !slices.Contains(full, id) && s.next(2) == 0 {
			others = append(others, id)
		}
	}
	s.confs = append(s.confs, conf(last.Num+1, len(full), append(full, others...)...))
}

// P19.5: what is on the disk is all there is.
func TestRestart(t *testing.T) {
	s := newSystem(t, 5)
	for n := 1; n < 4000; n++ {
		if n%200 == 0 {
			s.reconfigure()
		}
		s.step(n)
		for id, r := range s.replicas {
			if n%10 > 0 || s.disks[id].Dead() {
				continue
			}
			copied := disk.New()
			copied.Swap(s.disks[id].Read())
			o := made(t, id, 3, copied)
			if !same(o.Conf(), r.Conf()) || o.Has() != r.Has() || o.Base() != r.Base() || o.Last() != r.Last() || !bytes.Equal(o.Table(), r.Table()) {
				t.Fatal(n, id)
			}
		}
	}
}

// P19.8: with all up, and all packets arriving, requests are answered.
func TestAnswers(t *testing.T) {
	for length := 1; length <= 4; length++ {
		s := &system{t: t, disks: map[int]*disk.Disk{}, replicas: map[int]*Replica{}}
		for id := 10; id < 10+length; id++ {
			s.disks[id] = disk.New()
			s.replicas[id] = made(t, id, length, s.disks[id])
		}
		for n := 1; n < 100; n++ {
			out, e := s.replicas[10].Handle(req(10, get(n%3, n)))
			s.took(10, out, e)
			for len(s.bag) > 0 {
				p := s.bag[0]
				s.bag = s.bag[1:]
				out, e := s.replicas[p.To].Handle(p)
				s.took(p.To, out, e)
			}
			if len(s.answers) != n || s.answers[n-1].Num != n {
				t.Fatal(length, n, len(s.answers))
			}
			for id, r := range s.replicas {
				out, e := r.Tick()
				s.took(id, out, e)
			}
		}
	}
}
