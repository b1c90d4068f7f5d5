package sweep

import (
	"bytes"
	"testing"

	"sealchain/api"
	"sealchain/client"
	"sealchain/disk"
	"sealchain/mode"
	"sealchain/seal"
	"sealchain/table"
	"sealchain/tape"
)

var some = api.Name{5}

func made(t *testing.T, rotate bool, cursor api.Name, patience int) *Sweep {
	t.Helper()
	s, e := New(rotate, cursor, patience)
	if e != api.OK {
		t.Fatal(e)
	}
	return s
}

// takes lets a sweep do its next operation, which has to be of a kind.
func takes(t *testing.T, s *Sweep, kind int, g api.Got) {
	t.Helper()
	d, e := s.Next()
	if e != api.OK || d.Kind != kind || len(d.Key) != 0 || len(d.Value) != 0 || d.Want != 0 || !s.Waits() {
		t.Error("Next", d, e)
	}
	if e := s.Took(g); e != api.OK || s.Waits() {
		t.Error("Took", e)
	}
}

func stands(t *testing.T, s *Sweep, phase, seen, sealed int, why api.Errno) {
	t.Helper()
	if s.Phase() != phase || s.Seen() != seen || s.Sealed() != sealed || s.Why() != why {
		t.Errorf("phase %d seen %d sealed %d why %d", s.Phase(), s.Seen(), s.Sealed(), s.Why())
	}
}

// The chapter's examples.
func TestExamples(t *testing.T) {
	s := made(t, true, api.Name{}, 1)
	stands(t, s, 1, 0, 0, api.OK)
	if d, e := s.Next(); d.Kind != api.OpRotate || e != api.OK {
		t.Error(d, e)
	}
	if d, e := s.Next(); d.Kind != 0 || e != api.ErrState {
		t.Error(d, e)
	}
	if s.Took(api.Got{}) != api.OK || s.Took(api.Got{}) != api.ErrState {
		t.Error("Took")
	}
	stands(t, s, 3, 0, 0, api.OK)
	takes(t, s, api.OpSweep, api.Got{First: 5, Last: 6})
	takes(t, s, api.OpSweep, api.Got{Code: api.ErrTime})
	takes(t, s, api.OpSweep, api.Got{Code: api.ErrNone})
	stands(t, s, 4, 1, 1, api.OK)
	s = made(t, false, some, 0)
	takes(t, s, api.OpSweep, api.Got{Code: api.ErrTime})
	stands(t, s, 5, 0, 0, api.ErrTime)
}

// Nil and zero sweeps.
func TestNone(t *testing.T) {
	for _, s := range []*Sweep{nil, {}} {
		if d, e := s.Next(); d.Kind != 0 || e != api.ErrNil {
			t.Error(e)
		}
		if s.Took(api.Got{}) != api.ErrNil || s.Phase() != 0 || s.Waits() || s.Seen() != 0 || s.Sealed() != 0 || s.Why() != api.ErrNil {
			t.Error("is something")
		}
	}
}

// P22.1: New, and what a sweep does that has ended.
func TestNew(t *testing.T) {
	for _, n := range []int{-1, 101} {
		if s, e := New(true, some, n); s != nil || e != api.ErrArg {
			t.Error(n, e)
		}
	}
	stands(t, made(t, false, api.Name{}, 100), 3, 0, 0, api.OK)
	stands(t, made(t, false, some, 0), 2, 0, 0, api.OK)
	s := made(t, true, some, 0)
	if s.Took(api.Got{}) != api.ErrState {
		t.Error("it does not wait")
	}
	takes(t, s, api.OpRotate, api.Got{Code: api.ErrVersion})
	stands(t, s, 2, 0, 0, api.OK)
	takes(t, s, api.OpSweep, api.Got{First: 1, Last: 2})
	stands(t, s, 2, 0, 0, api.OK)
	takes(t, s, api.OpSweep, api.Got{Code: api.ErrNone})
	takes(t, s, api.OpSweep, api.Got{First: 4, Last: 4})
	stands(t, s, 3, 1, 0, api.OK)
	takes(t, s, api.OpSweep, api.Got{Code: api.ErrNone})
	stands(t, s, 4, 1, 0, api.OK)
	if d, e := s.Next(); d.Kind != 0 || e != api.ErrState || s.Waits() || s.Took(api.Got{}) != api.ErrState {
		t.Error(d, e)
	}
}

// P22.1, P22.2: results that end a sweep, in each phase.
func TestFailed(t *testing.T) {
	start := map[int]func() *Sweep{
		api.SweepRotate: func() *Sweep { return made(t, true, some, 0) },
		api.SweepBack:   func() *Sweep { return made(t, false, some, 0) },
		api.SweepOn:     func() *Sweep { return made(t, false, api.Name{}, 0) },
	}
	good := map[int][]api.Errno{
		api.SweepRotate: {api.OK, api.ErrVersion},
		api.SweepBack:   {api.OK, api.ErrNone},
		api.SweepOn:     {api.OK, api.ErrNone},
	}
	all := []api.Errno{api.OK, api.ErrNone, api.ErrVersion, api.ErrTime, api.ErrTamper, api.ErrRoll, api.ErrFork, api.ErrLimit, api.ErrEpoch, 77}
	for phase, begin := range start {
		for _, code := range all {
			s := begin()
			if s.Phase() != phase {
				t.Fatal(phase)
			}
			d, _ := s.Next()
			s.Took(api.Got{Code: code})
			is := false
			for _, x := range good[phase] {
				is = is || x == code
			}
			if is && (s.Phase() == api.SweepFailed || s.Why() != api.OK) || !is && (s.Phase() != api.SweepFailed || s.Why() != code) {
				t.Error(phase, d, code, s.Phase(), s.Why())
			}
			if _, e := s.Next(); !is && e != api.ErrState {
				t.Error(e)
			}
		}
	}
}

// P22.1: consecutive timeouts.
func TestPatience(t *testing.T) {
	s := made(t, true, api.Name{}, 2)
	late := api.Got{Code: api.ErrTime}
	takes(t, s, api.OpRotate, late)
	takes(t, s, api.OpRotate, late)
	takes(t, s, api.OpRotate, api.Got{})
	takes(t, s, api.OpSweep, late)
	takes(t, s, api.OpSweep, late)
	stands(t, s, 3, 0, 0, api.OK)
	takes(t, s, api.OpSweep, late)
	stands(t, s, 5, 0, 0, api.ErrTime)
}

// bench is a client, and a table that answers it.
type bench struct {
	t     *testing.T
	mode  *mode.Mode
	disk  *disk.Disk
	c     *client.Client
	table *table.Table
	lost  bool
}

func newBench(t *testing.T) *bench {
	t.Helper()
	m, e := mode.Ideal(tape.New([]byte("m")))
	if e != api.OK {
		t.Fatal(e)
	}
	b := &bench{t: t, mode: m, disk: disk.New(), table: table.New()}
	b.c, e = client.New(1, 2, 6, m, tape.New([]byte("c")), b.disk)
	if e != api.OK {
		t.Fatal(e)
	}
	b.c.Handle(api.Packet{Kind: api.PkConf, To: 21, Conf: api.Config{Full: 1, Chain: []int{10}}})
	return b
}

// step is a tick, and answers to what is sent.
func (b *bench) step() {
	out, _ := b.c.Tick()
	for _, p := range out {
		if p.Kind != api.PkReq || b.lost {
			continue
		}
		a, e := b.table.Do(p.Req)
		if e != api.OK {
			b.t.Fatal(e)
		}
		b.c.Handle(api.Packet{Kind: api.PkAns, From: 10, To: 21, Ans: a})
	}
}

func (b *bench) does(x api.Deed) api.Got {
	b.t.Helper()
	if e := b.c.Ask(x); e != api.OK {
		b.t.Fatal(e)
	}
	for b.c.Busy() {
		b.step()
	}
	got, _ := b.c.Done()
	return got
}

// P22.3: Lead.
func TestLead(t *testing.T) {
	b := newBench(t)
	s := made(t, true, api.Name{}, 0)
	for _, x := range []*Sweep{nil, {}} {
		if is, e := Lead(x, b.c); is || e != api.ErrNil {
			t.Error(e)
		}
	}
	for _, x := range []*client.Client{nil, {}} {
		if is, e := Lead(s, x); is || e != api.ErrNil || s.Phase() != 1 {
			t.Error(e)
		}
	}
	// A client that is busy, or has a result to tell, is left alone.
	b.c.Ask(api.Deed{Kind: api.OpGet, Key: []byte("k")})
	if is, e := Lead(s, b.c); is || e != api.OK || s.Waits() {
		t.Error(is, e)
	}
	b.step()
	if is, e := Lead(s, b.c); is || e != api.OK || s.Waits() || s.Phase() != 1 {
		t.Error(is, e)
	}
	b.c.Done()
	if is, e := Lead(s, b.c); is || e != api.OK || !s.Waits() || !b.c.Busy() {
		t.Error(is, e)
	}
	if is, e := Lead(s, b.c); is || e != api.OK || s.Phase() != 1 {
		t.Error(is, e)
	}
	b.step()
	if is, e := Lead(s, b.c); is || e != api.OK || s.Phase() != 3 || !s.Waits() || !b.c.Busy() {
		t.Error(is, e)
	}
	b.step()
	for range 2 {
		if is, e := Lead(s, b.c); !is || e != api.OK || s.Phase() != 4 || b.c.Busy() {
			t.Error(is, e)
		}
	}
}

// P22.3, P22.4: an operation that the client refuses.
func TestLeadRefused(t *testing.T) {
	b := newBench(t)
	b.c.Ask(api.Deed{Kind: api.OpGet, Key: []byte("k")})
	b.c.Tick()
	b.c.Handle(api.Packet{Kind: api.PkAns, From: 10, To: 21, Ans: api.Ans{Client: 1, Num: 1<<20 + 1, Code: 1, Epoch: 255}})
	b.c.Done()
	s := made(t, true, api.Name{}, 0)
	if is, e := Lead(s, b.c); is || e != api.ErrEpoch || s.Waits() {
		t.Error(is, e)
	}
	stands(t, s, 5, 0, 0, api.ErrEpoch)
	if is, e := Lead(s, b.c); !is || e != api.OK {
		t.Error(is, e)
	}
	b = newBench(t)
	b.lost = true
	s = made(t, true, api.Name{}, 0)
	Lead(s, b.c)
	for b.c.Busy() {
		b.step()
	}
	if is, e := Lead(s, b.c); !is || e != api.OK || s.Why() != api.ErrTime {
		t.Error(is, e, s.Why())
	}
}

// P22.5: a sweep is done after one ErrNone in the phase SweepOn, never before.
func TestDone(t *testing.T) {
	seed := uint32(3)
	for range 500 {
		s := made(t, seed&1 == 0, api.Name{byte(seed >> 4 & 1)}, 100)
		for s.Phase() < api.SweepDone {
			seed = seed*1664525 + 1013904223
			phase := s.Phase()
			s.Next()
			code := []api.Errno{api.OK, api.ErrNone, api.ErrTime}[seed>>8%3]
			if phase == api.SweepRotate && code == api.ErrNone {
				code = api.ErrVersion
			}
			s.Took(api.Got{Code: code})
			if s.Phase() == api.SweepFailed || (s.Phase() == api.SweepDone) != (phase == api.SweepOn && code == api.ErrNone) {
				t.Fatal(phase, code, s.Phase())
			}
		}
	}
}

// P22.6: after a sweep that rotated nothing is sealed in an older epoch, and no value has changed.
func TestComplete(t *testing.T) {
	b := newBench(t)
	names := map[string]api.Name{}
	for i := range 20 {
		key := []byte{'k', byte(i)}
		names[string(key)], _ = b.mode.Name(key)
		b.does(api.Deed{Kind: api.OpPut, Key: key, Value: key})
		if i%5 == 0 {
			b.does(api.Deed{Kind: api.OpDelete, Key: key})
		}
		if i == 10 {
			b.does(api.Deed{Kind: api.OpRotate})
		}
		if i == 15 {
			b.does(api.Deed{Kind: api.OpSweep})
		}
	}
	type thing struct {
		version, epoch int
		value          []byte
		tomb           bool
	}
	look := func() map[string]thing {
		all := map[string]thing{}
		for key, name := range names {
			v, env := b.table.Get(name)
			value, tomb, epoch, e := seal.Open(b.mode, name, v, env)
			if e != api.OK {
				t.Fatal(e)
			}
			all[key] = thing{v, epoch, value, tomb}
		}
		return all
	}
	for _, rotate := range []bool{true, false} {
		before := look()
		s := made(t, rotate, b.c.Cursor(), 3)
		for range 200 {
			if is, e := Lead(s, b.c); is || e != api.OK {
				break
			}
			b.step()
		}
		// What lay behind the cursor was sealed on the way back to the first name.
		sealed := 0
		if rotate {
			sealed = 2
		}
		stands(t, s, 4, 20, sealed, api.OK)
		for key, x := range look() {
			was := before[key]
			more := 0
			if rotate {
				more = 1
			}
			if x.epoch != b.c.Epoch() || x.tomb != was.tomb || !bytes.Equal(x.value, was.value) || x.version != was.version+more {
				t.Error(key, x, was)
			}
		}
	}
}
