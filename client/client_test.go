package client

import (
	"bytes"
	"slices"
	"testing"

	"sealchain/api"
	"sealchain/disk"
	"sealchain/mark"
	"sealchain/mode"
	"sealchain/seal"
	"sealchain/table"
	"sealchain/tape"
)

var k = []byte("k")

// bench is a client, and a table that answers it.
type bench struct {
	t     *testing.T
	mode  *mode.Mode
	tape  *tape.Tape
	disk  *disk.Disk
	c     *Client
	table *table.Table
}

func newBench(t *testing.T, ideal bool) *bench {
	t.Helper()
	m, e := mode.Real(make([]byte, 32))
	if ideal {
		m, e = mode.Ideal(tape.New([]byte("mode")))
	}
	if e != api.OK {
		t.Fatal(e)
	}
	b := &bench{t: t, mode: m, tape: tape.New([]byte("own")), disk: disk.New(), table: table.New()}
	b.start()
	return b
}

// start lets the client begin from its disk, knowing the configuration 0 with 10.
func (b *bench) start() {
	b.t.Helper()
	c, e := New(0, 2, 20, b.mode, b.tape, b.disk)
	if e != api.OK {
		b.t.Fatal(e)
	}
	c.Handle(api.Packet{Kind: api.PkConf, To: 20, Conf: api.Config{Full: 1, Chain: []int{10}}})
	b.c = c
}

func (b *bench) ask(x api.Deed) {
	b.t.Helper()
	if e := b.c.Ask(x); e != api.OK {
		b.t.Fatal("Ask", x, e)
	}
}

// sent is the request of the next tick.
func (b *bench) sent() api.Req {
	b.t.Helper()
	out, e := b.c.Tick()
	if e != api.OK || len(out) == 0 || out[0].Kind != api.PkReq {
		b.t.Fatal("Tick", out, e)
	}
	return out[0].Req
}

// answers gives the client an answer to its last request.
func (b *bench) answers(a api.Ans) api.Errno {
	_, last := b.c.Nums()
	a.Num = last
	return b.c.Handle(api.Packet{Kind: api.PkAns, From: 10, To: 20, Ans: a})
}

// serve lets the table answer until the operation has ended.
func (b *bench) serve() api.Got {
	b.t.Helper()
	for b.c.Busy() {
		a, e := b.table.Do(b.sent())
		if e != api.OK {
			b.t.Fatal(e)
		}
		b.answers(a)
	}
	return b.done()
}

func (b *bench) done() api.Got {
	b.t.Helper()
	got, is := b.c.Done()
	if !is {
		b.t.Fatal("not done")
	}
	if _, is := b.c.Done(); is {
		b.t.Error("done twice")
	}
	return got
}

func (b *bench) does(x api.Deed) api.Got {
	b.t.Helper()
	b.ask(x)
	return b.serve()
}

func (b *bench) name(key string) api.Name {
	n, _ := b.mode.Name([]byte(key))
	return n
}

// env is an envelope that another client has sealed.
func (b *bench) env(key string, version, epoch int, value string) []byte {
	b.t.Helper()
	env, e := seal.Seal(b.mode, b.tape, b.name(key), version, epoch, []byte(value), false)
	if e != api.OK {
		b.t.Fatal(e)
	}
	return env
}

func expect(t *testing.T, got api.Got, code api.Errno, value string, tomb bool, version, requests int) {
	t.Helper()
	many := got.Last - got.First + 1
	if got.First == 0 {
		many = 0
	}
	if got.Code != code || string(got.Value) != value || got.Tomb != tomb || got.Version != version || many != requests {
		t.Errorf("%+v", got)
	}
}

// The chapter's examples.
func TestExamples(t *testing.T) {
	b := newBench(t, false)
	b.ask(api.Deed{Kind: api.OpPut, Key: k, Value: []byte("v")})
	r := b.sent()
	if r.Kind != api.ReqPut || r.Num != 1048577 || r.Version != 1 || len(r.Env) != 45 || r.Name != b.name("k") {
		t.Error(r)
	}
	if e := b.answers(api.Ans{Version: 1}); e != api.OK {
		t.Error(e)
	}
	expect(t, b.done(), api.OK, "", false, 1, 1)
	if b.c.Seen(b.name("k")) != 1 {
		t.Error(b.c.Seen(b.name("k")))
	}
	b.ask(api.Deed{Kind: api.OpGet, Key: k})
	b.sent()
	b.answers(api.Ans{Code: api.AnsNone})
	expect(t, b.done(), api.ErrRoll, "", false, 0, 1)
	if b.c.Ask(api.Deed{Kind: api.OpPut, Key: k, Value: make([]byte, 251)}) != api.ErrSize ||
		b.c.Ask(api.Deed{Kind: api.OpRotate}) != api.OK || b.c.Ask(api.Deed{Kind: api.OpSweep}) != api.ErrState {
		t.Error("Ask")
	}
}

// Nil and zero clients.
func TestNone(t *testing.T) {
	for _, c := range []*Client{nil, {}} {
		out, e := c.Tick()
		if out != nil || e != api.ErrNil || c.Ask(api.Deed{}) != api.ErrNil || c.Handle(api.Packet{}) != api.ErrNil {
			t.Error(e)
		}
		first, last := c.Nums()
		if _, is := c.Done(); is || first != 0 || last != 0 || c.Busy() || c.Life() != 0 || c.Epoch() != 0 || c.Seen(api.Name{}) != 0 || c.Cursor() != (api.Name{}) || c.Down() {
			t.Error("is something")
		}
	}
}

// P21.1: New.
func TestNew(t *testing.T) {
	m, _ := mode.Real(make([]byte, 32))
	s, d := tape.New(nil), disk.New()
	garbage, dead, armed, full := disk.New(), disk.New(), disk.New(), disk.New()
	garbage.Write([]byte{0x80, 1, 2})
	garbage.Sync()
	dead.Crash(0)
	armed.Arm(0)
	full.Write([]byte{0xC0, 0x80, 0, 0, 0}) // a life of 2^20
	full.Sync()
	for i, c := range []struct {
		id, limit, most int
		m               *mode.Mode
		t               *tape.Tape
		d               *disk.Disk
		want            api.Errno
	}{
		{-1, 0, 0, nil, s, d, api.ErrNil},
		{0, 1, 1, &mode.Mode{}, s, d, api.ErrNil},
		{0, 1, 1, m, nil, d, api.ErrNil},
		{0, 1, 1, m, s, nil, api.ErrNil},
		{0, 1, 1, m, s, &disk.Disk{}, api.ErrNil},
		{-1, 1, 1, m, s, garbage, api.ErrArg},
		{3, 1, 1, m, s, d, api.ErrArg},
		{0, 0, 1, m, s, d, api.ErrArg},
		{0, 1001, 1, m, s, d, api.ErrArg},
		{0, 1, 0, m, s, d, api.ErrArg},
		{0, 1, 100001, m, s, d, api.ErrArg},
		{0, 1, 1, m, s, garbage, api.ErrForm},
		{0, 1, 1, m, s, full, api.ErrLimit},
		{0, 1, 1, m, s, dead, api.ErrDown},
		{0, 1, 1, m, s, armed, api.ErrDown},
	} {
		if x, e := New(c.id, c.limit, c.most, c.m, c.t, c.d); x != nil || e != c.want {
			t.Error(i, e)
		}
	}
	for life := 1; life < 4; life++ {
		c, e := New(2, 1000, 100000, m, &tape.Tape{}, d)
		if e != api.OK || c.Life() != life || c.Epoch() != 0 || c.Busy() || c.Down() || c.Cursor() != (api.Name{}) {
			t.Error(life, e)
		}
		marks, e := mark.Open(d.Read())
		if e != api.OK || marks.Life() != life {
			t.Error(life, e)
		}
	}
}

// P21.2: operations that may not be.
func TestAskInvalid(t *testing.T) {
	b := newBench(t, true)
	long := make([]byte, 251)
	for i, c := range []struct {
		x    api.Deed
		want api.Errno
	}{
		{api.Deed{}, api.ErrArg},
		{api.Deed{Kind: 7}, api.ErrArg},
		{api.Deed{Kind: -1, Key: k}, api.ErrArg},
		{api.Deed{Kind: api.OpGet}, api.ErrArg},
		{api.Deed{Kind: api.OpGet, Key: make([]byte, 17)}, api.ErrArg},
		{api.Deed{Kind: api.OpGet, Key: k, Value: []byte{1}}, api.ErrArg},
		{api.Deed{Kind: api.OpGet, Key: k, Value: long}, api.ErrArg},
		{api.Deed{Kind: api.OpGet, Key: k, Want: 1}, api.ErrArg},
		{api.Deed{Kind: api.OpDelete, Key: k, Value: []byte{1}}, api.ErrArg},
		{api.Deed{Kind: api.OpPut, Key: k, Want: 1}, api.ErrArg},
		{api.Deed{Kind: api.OpPut, Value: long}, api.ErrArg},
		{api.Deed{Kind: api.OpPut, Key: k, Value: long}, api.ErrSize},
		{api.Deed{Kind: api.OpPutIf, Key: k, Want: -1}, api.ErrArg},
		{api.Deed{Kind: api.OpPutIf, Key: k, Want: api.MaxNumber}, api.ErrArg},
		{api.Deed{Kind: api.OpPutIf, Key: k, Value: long, Want: api.MaxNumber - 1}, api.ErrSize},
		{api.Deed{Kind: api.OpRotate, Key: k}, api.ErrArg},
		{api.Deed{Kind: api.OpRotate, Value: k}, api.ErrArg},
		{api.Deed{Kind: api.OpSweep, Want: 1}, api.ErrArg},
		{api.Deed{Kind: api.OpSweep, Key: k}, api.ErrArg},
	} {
		if e := b.c.Ask(c.x); e != c.want || b.c.Busy() {
			t.Error(i, e)
		}
	}
	b.ask(api.Deed{Kind: api.OpGet, Key: make([]byte, 16)})
	if e := b.c.Ask(api.Deed{}); e != api.ErrState {
		t.Error(e)
	}
	b.sent()
	b.answers(api.Ans{Code: api.AnsNone, Epoch: 255})
	if e := b.c.Ask(api.Deed{}); e != api.ErrState || b.c.Busy() {
		t.Error("a result that was not taken", e)
	}
	b.done()
	if e := b.c.Ask(api.Deed{Kind: api.OpRotate}); e != api.ErrEpoch || b.c.Epoch() != 255 {
		t.Error(e)
	}
	if e := b.c.Ask(api.Deed{Kind: api.OpRotate, Key: k}); e != api.ErrArg {
		t.Error(e)
	}
}

// P21.2, P21.3, P21.4: all operations, with an honest table.
func TestOperations(t *testing.T) {
	for _, ideal := range []bool{false, true} {
		b := newBench(t, ideal)
		expect(t, b.does(api.Deed{Kind: api.OpGet, Key: k}), api.ErrNone, "", false, 0, 1)
		expect(t, b.does(api.Deed{Kind: api.OpPut, Key: k, Value: []byte("one")}), api.OK, "", false, 1, 1)
		expect(t, b.does(api.Deed{Kind: api.OpGet, Key: k}), api.OK, "one", false, 1, 1)
		expect(t, b.does(api.Deed{Kind: api.OpPutIf, Key: k, Value: []byte("two"), Want: 1}), api.OK, "", false, 2, 1)
		expect(t, b.does(api.Deed{Kind: api.OpPutIf, Key: k, Value: []byte("x"), Want: 0}), api.ErrVersion, "", false, 2, 1)
		expect(t, b.does(api.Deed{Kind: api.OpPutIf, Key: k, Value: []byte("x"), Want: 9}), api.ErrVersion, "", false, 2, 1)
		expect(t, b.does(api.Deed{Kind: api.OpDelete, Key: k}), api.OK, "", false, 3, 1)
		expect(t, b.does(api.Deed{Kind: api.OpGet, Key: k}), api.ErrNone, "", true, 3, 1)
		expect(t, b.does(api.Deed{Kind: api.OpPut, Key: k, Value: []byte("three")}), api.OK, "", false, 4, 1)
		expect(t, b.does(api.Deed{Kind: api.OpRotate}), api.OK, "", false, 1, 1)
		expect(t, b.does(api.Deed{Kind: api.OpGet, Key: k}), api.OK, "three", false, 4, 2)
		expect(t, b.does(api.Deed{Kind: api.OpGet, Key: k}), api.OK, "three", false, 5, 1)
		expect(t, b.does(api.Deed{Kind: api.OpPut, Key: []byte("j"), Value: []byte("y")}), api.OK, "", false, 1, 1)
		expect(t, b.does(api.Deed{Kind: api.OpRotate}), api.OK, "", false, 2, 1)
		versions := []int{6, 2}
		if j, k := b.name("j"), b.name("k"); bytes.Compare(j[:], k[:]) < 0 {
			versions = []int{2, 6}
		}
		for _, v := range versions {
			expect(t, b.does(api.Deed{Kind: api.OpSweep}), api.OK, "", false, v, 2)
		}
		if b.c.Cursor() == (api.Name{}) {
			t.Error("cursor")
		}
		expect(t, b.does(api.Deed{Kind: api.OpSweep}), api.ErrNone, "", false, 0, 1)
		if b.c.Cursor() != (api.Name{}) {
			t.Error("cursor")
		}
		expect(t, b.does(api.Deed{Kind: api.OpSweep}), api.OK, "", false, versions[0], 1)
		if b.c.Epoch() != 2 || b.c.Seen(b.name("k")) != 6 {
			t.Error(b.c.Epoch())
		}
		b.start()
		if b.c.Life() != 2 || b.c.Epoch() != 2 || b.c.Seen(b.name("k")) != 6 || b.c.Cursor() != (api.Name{}) {
			t.Error("after a restart")
		}
		b.ask(api.Deed{Kind: api.OpGet, Key: k})
		if first, last := b.c.Nums(); first != 2<<20+1 || last != first {
			t.Error(first, last)
		}
		expect(t, b.serve(), api.OK, "three", false, 6, 1)
		if first, last := b.c.Nums(); first != 0 || last != 0 {
			t.Error(first, last)
		}
	}
}

// P21.2, P21.3: the longest value and key, and another client's node.
func TestLongest(t *testing.T) {
	b := newBench(t, true)
	value, key := bytes.Repeat([]byte("v"), 250), bytes.Repeat([]byte("k"), 16)
	expect(t, b.does(api.Deed{Kind: api.OpPut, Key: key, Value: value}), api.OK, "", false, 1, 1)
	expect(t, b.does(api.Deed{Kind: api.OpGet, Key: key}), api.OK, string(value), false, 1, 1)
	c, e := New(2, 2, 20, b.mode, b.tape, disk.New())
	if e != api.OK {
		t.Fatal(e)
	}
	told := api.Packet{Kind: api.PkConf, To: 22, Conf: api.Config{Full: 1, Chain: []int{12}}}
	if c.Handle(told) != api.OK || c.Ask(api.Deed{Kind: api.OpGet, Key: k}) != api.OK {
		t.Error("its own node")
	}
	if out, _ := c.Tick(); len(out) != 1 || out[0].From != 22 || out[0].To != 12 {
		t.Error(out)
	}
	told.To = 20
	if c.Handle(told) != api.ErrArg {
		t.Error("another node")
	}
}

// P21.2: only a key is named: what has none leaves the names of the mode as they are.
func TestNoKey(t *testing.T) {
	for _, kind := range []int{api.OpRotate, api.OpSweep} {
		b, other := newBench(t, true), newBench(t, true)
		b.does(api.Deed{Kind: kind})
		if b.name("x") != other.name("x") {
			t.Error(kind)
		}
	}
}

// P21.3: an answer's Version is an epoch to a rotation, and a sweep takes only names after the cursor.
func TestEpochCursor(t *testing.T) {
	for i, c := range []struct {
		code, version, epoch int
		want                 api.Errno
	}{
		{api.AnsOK, 4, 4, api.OK},
		{api.AnsNo, 9, 9, api.ErrVersion},
		{api.AnsNo, 255, 255, api.ErrVersion},
		{api.AnsNo, 2, 3, api.ErrVersion},
		{api.AnsNo, 256, 3, api.ErrTamper},
	} {
		b := seenTwo(t)
		b.ask(api.Deed{Kind: api.OpRotate})
		b.sent()
		b.answers(api.Ans{Code: c.code, Version: c.version})
		if got := b.done(); got.Code != c.want || b.c.Epoch() != c.epoch {
			t.Error(i, got, b.c.Epoch())
		}
	}
	b := seenTwo(t)
	for i, want := range []api.Errno{api.OK, api.ErrTamper} {
		b.ask(api.Deed{Kind: api.OpSweep})
		b.sent()
		b.answers(api.Ans{Version: 3 + i, Name: b.name("k"), Env: b.env("k", 3+i, 3, "x")})
		if got := b.done(); got.Code != want || b.c.Cursor() != b.name("k") {
			t.Error(i, got)
		}
	}
}

// P21.2: puts that others overtake, again and again.
func TestPutAgain(t *testing.T) {
	b := newBench(t, true)
	other := func(n, version int) {
		r := api.Req{Client: 1, Num: n, Kind: api.ReqPut, Name: b.name("k"), Version: version, Env: b.env("k", version, 0, "o")}
		if a, e := b.table.Do(r); e != api.OK || a.Code != api.AnsOK {
			t.Fatal(a, e)
		}
	}
	b.ask(api.Deed{Kind: api.OpPut, Key: k, Value: []byte("v")})
	for i := range 4 {
		r := b.sent()
		if r.Version != i+1 {
			t.Error(i, r.Version)
		}
		other(i+1, i+1)
		a, _ := b.table.Do(r)
		b.answers(a)
		if first, last := b.c.Nums(); i < 3 && last-first != i+1 {
			t.Error(first, last)
		}
	}
	expect(t, b.done(), api.ErrVersion, "", false, 4, 4)
	b.ask(api.Deed{Kind: api.OpDelete, Key: k})
	r := b.sent()
	other(5, 5)
	a, _ := b.table.Do(r)
	b.answers(a)
	expect(t, b.serve(), api.OK, "", false, 6, 2)
	if b.c.Seen(b.name("k")) != 6 {
		t.Error(b.c.Seen(b.name("k")))
	}
}

// forged is an answer to an operation, and what must come of it.
type forged struct {
	x       api.Deed
	a       func(b *bench) api.Ans
	code    api.Errno
	version int
}

// seenTwo is a client that has seen version 2 of k, and nothing of j, in the epoch 3.
func seenTwo(t *testing.T) *bench {
	b := newBench(t, true)
	b.does(api.Deed{Kind: api.OpPut, Key: k, Value: []byte("1")})
	b.does(api.Deed{Kind: api.OpPut, Key: k, Value: []byte("2")})
	b.ask(api.Deed{Kind: api.OpGet, Key: []byte("j")})
	b.sent()
	b.answers(api.Ans{Code: api.AnsNone, Epoch: 3})
	b.done()
	return b
}

// P21.3, P21.6: answers that nobody honest sends.
func TestForged(t *testing.T) {
	ans := func(code, version int, key string, env []byte) func(b *bench) api.Ans {
		return func(b *bench) api.Ans {
			return api.Ans{Code: code, Version: version, Name: b.name(key), Env: env}
		}
	}
	sealed := func(code, version, epoch int, key string) func(b *bench) api.Ans {
		return func(b *bench) api.Ans {
			return api.Ans{Code: code, Version: version, Name: b.name(key), Env: b.env(key, max(version, 1), epoch, "x")}
		}
	}
	junk := make([]byte, 45)
	get, put := api.Deed{Kind: api.OpGet, Key: k}, api.Deed{Kind: api.OpPut, Key: k}
	putIf := func(key string, want int) api.Deed {
		return api.Deed{Kind: api.OpPutIf, Key: []byte(key), Want: want}
	}
	rotate, sweep := api.Deed{Kind: api.OpRotate}, api.Deed{Kind: api.OpSweep}
	for i, c := range []forged{
		{get, ans(0, 3, "k", junk), api.ErrTamper, 0},
		{get, sealed(0, 3, 3, "j"), api.ErrTamper, 0},
		{get, sealed(0, 0, 3, "k"), api.ErrTamper, 0},
		{get, sealed(0, 1, 3, "k"), api.ErrRoll, 0},
		{get, sealed(0, 2, 3, "k"), api.ErrFork, 0},
		{get, ans(0, 3, "k", nil), api.ErrTamper, 0},
		{get, sealed(0, 3, 3, "k"), api.OK, 3},
		{get, ans(1, 0, "k", nil), api.ErrRoll, 0},
		{get, ans(1, 1, "k", nil), api.ErrTamper, 0},
		{get, ans(2, 3, "k", nil), api.ErrTamper, 0},
		{get, ans(3, 0, "k", nil), api.ErrTamper, 0},
		{api.Deed{Kind: api.OpGet, Key: []byte("j")}, ans(1, 0, "k", nil), api.ErrNone, 0},
		{put, ans(0, 2, "k", nil), api.ErrTamper, 0},
		{put, ans(0, 4, "k", nil), api.ErrTamper, 0},
		{put, ans(0, 3, "j", nil), api.OK, 3},
		{put, sealed(2, 2, 0, "k"), api.ErrTamper, 0},
		{put, sealed(2, 1, 0, "k"), api.ErrRoll, 0},
		{put, sealed(2, 5, 0, "j"), api.ErrTamper, 0},
		{put, ans(2, 5, "k", junk), api.ErrTamper, 0},
		{put, ans(2, 0, "k", nil), api.ErrRoll, 0},
		{put, ans(1, 0, "k", nil), api.ErrTamper, 0},
		{put, ans(3, 0, "k", nil), api.ErrTamper, 0},
		{api.Deed{Kind: api.OpPut, Key: []byte("j")}, ans(2, 0, "j", nil), api.ErrLimit, 0},
		{putIf("j", 4), ans(2, 0, "j", nil), api.ErrVersion, 0},
		{putIf("k", 4), ans(2, 0, "k", nil), api.ErrRoll, 0},
		{putIf("k", 4), sealed(2, 4, 0, "k"), api.ErrTamper, 0},
		{putIf("k", 4), sealed(2, 3, 0, "k"), api.ErrVersion, 3},
		{putIf("k", 4), sealed(2, 2, 0, "k"), api.ErrFork, 0},
		{putIf("k", 0), ans(2, 0, "k", nil), api.ErrLimit, 0},
		{putIf("k", 0), ans(0, 1, "k", nil), api.ErrLimit, 0},
		{putIf("k", 1), ans(0, 2, "k", nil), api.ErrLimit, 0},
		{rotate, ans(0, 4, "k", nil), api.OK, 4},
		{rotate, ans(0, 5, "k", nil), api.ErrTamper, 0},
		{rotate, ans(2, 3, "k", nil), api.ErrTamper, 0},
		{rotate, ans(2, 4, "k", nil), api.ErrVersion, 4},
		{rotate, ans(2, 0, "k", nil), api.ErrVersion, 0},
		{rotate, ans(2, 256, "k", nil), api.ErrTamper, 0},
		{rotate, ans(1, 0, "k", nil), api.ErrTamper, 0},
		{sweep, ans(1, 7, "k", junk), api.ErrNone, 0},
		{sweep, ans(2, 7, "k", junk), api.ErrTamper, 0},
		{sweep, ans(3, 0, "k", nil), api.ErrTamper, 0},
		{sweep, sealed(0, 1, 3, "k"), api.ErrRoll, 0},
		{sweep, ans(0, 3, "k", junk), api.ErrTamper, 0},
		{sweep, sealed(0, 3, 3, "k"), api.OK, 3},
		{sweep, func(b *bench) api.Ans { return api.Ans{Version: 1, Env: junk} }, api.ErrTamper, 0},
	} {
		b := seenTwo(t)
		b.ask(c.x)
		b.sent()
		if e := b.answers(c.a(b)); e != api.OK {
			t.Error(i, e)
		}
		got := b.done()
		if got.Code != c.code || got.Version != c.version || got.First == 0 || got.First != got.Last {
			t.Errorf("%d: %+v", i, got)
		}
	}
}

// P21.3: what is answered when something old is refreshed, or swept.
func TestRefresh(t *testing.T) {
	for i, c := range []struct {
		kind, code, version int // of the answer to the second put
		want                api.Errno
		got                 int
	}{
		{api.OpGet, 0, 4, api.OK, 3},
		{api.OpGet, 0, 5, api.ErrTamper, 0},
		{api.OpGet, 2, 5, api.OK, 3},
		{api.OpGet, 2, 3, api.ErrTamper, 0},
		{api.OpGet, 2, 2, api.ErrRoll, 0},
		{api.OpGet, 2, 0, api.ErrRoll, 0},
		{api.OpGet, 3, 0, api.ErrTamper, 0},
		{api.OpGet, 1, 0, api.ErrTamper, 0},
		{api.OpSweep, 0, 4, api.OK, 4},
		{api.OpSweep, 0, 3, api.ErrTamper, 0},
		{api.OpSweep, 2, 5, api.OK, 5},
		{api.OpSweep, 2, 3, api.ErrTamper, 0},
		{api.OpSweep, 1, 0, api.ErrTamper, 0},
	} {
		b := seenTwo(t)
		x := api.Deed{Kind: c.kind}
		if c.kind == api.OpGet {
			x.Key = k
		}
		b.ask(x)
		b.sent()
		b.answers(api.Ans{Version: 3, Name: b.name("k"), Env: b.env("k", 3, 2, "old")})
		r := b.sent()
		value, tomb, epoch, e := seal.Open(b.mode, b.name("k"), 4, r.Env)
		if r.Kind != api.ReqPut || r.Version != 4 || string(value) != "old" || tomb || epoch != 3 || e != api.OK {
			t.Error(i, r.Version, value, e)
		}
		a := api.Ans{Code: c.code, Version: c.version, Name: b.name("k")}
		if c.code == 2 && c.version > 0 {
			a.Env = b.env("k", c.version, 3, "other")
		}
		b.answers(a)
		got := b.done()
		if got.Code != c.want || got.Version != c.got || got.Last != got.First+1 || (string(got.Value) == "old") != (c.kind == api.OpGet && c.want == api.OK) {
			t.Errorf("%d: %+v", i, got)
		}
	}
}

// P21.2: an operation that gets no answer; what was read is known all the same.
func TestLate(t *testing.T) {
	wait := func(b *bench) {
		for range 20 {
			if _, e := b.c.Tick(); e != api.OK || !b.c.Busy() {
				t.Fatal("ended too early", e)
			}
		}
		if out, e := b.c.Tick(); len(out) != 0 || e != api.OK || b.c.Busy() {
			t.Fatal("not ended", out, e)
		}
	}
	for _, kind := range []int{api.OpGet, api.OpPut, api.OpDelete, api.OpPutIf, api.OpRotate, api.OpSweep} {
		b := seenTwo(t)
		x := api.Deed{Kind: kind}
		if kind < api.OpRotate {
			x.Key = k
		}
		b.ask(x)
		wait(b)
		expect(t, b.done(), api.ErrTime, "", false, 0, 1)
		if kind != api.OpGet && kind != api.OpSweep {
			continue
		}
		b.ask(x)
		b.sent()
		b.answers(api.Ans{Version: 3, Name: b.name("k"), Env: b.env("k", 3, 2, "old")})
		wait(b)
		if kind == api.OpGet {
			expect(t, b.done(), api.OK, "old", false, 3, 2)
		} else {
			expect(t, b.done(), api.ErrTime, "", false, 0, 2)
		}
	}
}

// P21.2: what can't be put ends with ErrLimit.
func TestLimit(t *testing.T) {
	b := newBench(t, true)
	env := b.env("k", api.MaxNumber, 0, "x")
	b.ask(api.Deed{Kind: api.OpGet, Key: k})
	b.sent()
	b.answers(api.Ans{Version: api.MaxNumber, Name: b.name("k"), Env: env})
	expect(t, b.done(), api.OK, "x", false, api.MaxNumber, 1)
	b.ask(api.Deed{Kind: api.OpPut, Key: k})
	if b.c.Busy() {
		t.Error("busy")
	}
	expect(t, b.done(), api.ErrLimit, "", false, 0, 0)
	b.ask(api.Deed{Kind: api.OpGet, Key: k})
	b.sent()
	b.answers(api.Ans{Version: api.MaxNumber, Name: b.name("k"), Env: env, Epoch: 1})
	expect(t, b.done(), api.ErrLimit, "", false, 0, 1)
	for i := range 64 {
		key := string([]byte{'a', byte(i)})
		b.ask(api.Deed{Kind: api.OpGet, Key: []byte(key)})
		b.sent()
		b.answers(api.Ans{Version: 1, Name: b.name(key), Env: b.env(key, 1, 1, "x")})
		want, value, version := api.OK, "x", 1
		if i == 63 {
			want, value, version = api.ErrLimit, "", 0
		}
		expect(t, b.done(), want, value, false, version, 1)
	}
}

// P21.3: packets that may not be, or are nothing for a client.
func TestHandle(t *testing.T) {
	b := newBench(t, true)
	b.ask(api.Deed{Kind: api.OpGet, Key: k})
	for i, p := range []api.Packet{
		{},
		{Kind: api.PkAns, From: 10, To: 21, Ans: api.Ans{Num: 1<<20 + 1, Code: 1}},
		{Kind: api.PkAns, From: 10, To: 20},
	} {
		if e := b.c.Handle(p); e != api.ErrArg || !b.c.Busy() {
			t.Error(i, e)
		}
	}
	for i, p := range []api.Packet{
		{Kind: api.PkAns, From: 10, To: 20, Ans: api.Ans{Num: 1 << 20, Code: 1, Epoch: 9}},
		{Kind: api.PkAsk, From: 20, To: 20},
		{Kind: api.PkAck, From: 10, To: 20},
	} {
		if e := b.c.Handle(p); e != api.OK || !b.c.Busy() || b.c.Epoch() != 0 {
			t.Error(i, e)
		}
	}
}

// P21.2, P21.3, P21.4: a disk that fails.
func TestDown(t *testing.T) {
	b := newBench(t, true)
	b.ask(api.Deed{Kind: api.OpPut, Key: k, Value: []byte("v")})
	a, _ := b.table.Do(b.sent())
	b.disk.Arm(0)
	if e := b.answers(a); e != api.ErrDown || !b.c.Down() || !b.c.Busy() {
		t.Error(e)
	}
	first, last := b.c.Nums()
	if _, is := b.c.Done(); is || first != 1<<20+1 || last != first {
		t.Error(is, first, last)
	}
	out, e := b.c.Tick()
	if out != nil || e != api.ErrDown || b.c.Ask(api.Deed{}) != api.ErrDown || b.c.Handle(api.Packet{}) != api.ErrDown {
		t.Error(e)
	}
	b.disk.Revive()
	b.start()
	if b.c.Seen(b.name("k")) != 0 || b.c.Life() != 2 {
		t.Error("something was stored")
	}
	expect(t, b.does(api.Deed{Kind: api.OpGet, Key: k}), api.OK, "v", false, 1, 1)
	// The request of a refresh is one of the operation, even if the disk fails then.
	b.ask(api.Deed{Kind: api.OpGet, Key: k})
	a, _ = b.table.Do(b.sent())
	a.Epoch = 1
	b.disk.Arm(0)
	b.answers(a)
	if first, last := b.c.Nums(); !b.c.Down() || last != first+1 {
		t.Error(first, last)
	}
}

// P21.5: memory.
func TestMemory(t *testing.T) {
	b := newBench(t, true)
	key, value := []byte("k"), []byte("value")
	b.ask(api.Deed{Kind: api.OpPut, Key: key, Value: value})
	key[0], value[0] = 'x', 'x'
	r := b.sent()
	env := slices.Clone(r.Env)
	clear(r.Env)
	a, _ := b.table.Do(api.Req{Num: r.Num, Kind: r.Kind, Name: r.Name, Version: r.Version, Env: env})
	b.answers(a)
	expect(t, b.done(), api.OK, "", false, 1, 1)
	got := b.does(api.Deed{Kind: api.OpGet, Key: k})
	expect(t, got, api.OK, "value", false, 1, 1)
	clear(got.Value)
	expect(t, b.does(api.Deed{Kind: api.OpGet, Key: k}), api.OK, "value", false, 1, 1)
}

// P21.6, P21.7: whatever answers arrive, nothing goes back, and nothing is accepted that was not sealed so.
func TestIntegrity(t *testing.T) {
	for seed := range uint32(20) {
		b := newBench(t, true)
		state := seed
		next := func(n int) int {
			state = state*1664525 + 1013904223
			return int(state>>8) % n
		}
		type version struct {
			key string
			n   int
		}
		sealed := map[string]version{}
		values := map[string]string{}
		top := map[string]int{}
		accepted := map[version]string{}
		keys := []string{"a", "b", "c"}
		var envs []string
		for step := range 600 {
			if next(40) == 0 {
				b.disk.Crash(0)
				b.disk.Revive()
				b.start()
			}
			key := keys[next(3)]
			x := api.Deed{Kind: 1 + next(6)}
			if x.Kind < api.OpRotate {
				x.Key = []byte(key)
			}
			if x.Kind == api.OpPut || x.Kind == api.OpPutIf {
				x.Value = []byte{byte(step), byte(step >> 8)}
			}
			if b.c.Ask(x) != api.OK {
				continue
			}
			for b.c.Busy() {
				r := b.sent()
				if r.Kind == api.ReqPut {
					for _, k := range keys {
						if r.Name == b.name(k) {
							value, _, _, _ := seal.Open(b.mode, r.Name, r.Version, r.Env)
							sealed[string(r.Env)] = version{k, r.Version}
							values[string(r.Env)] = string(value)
							envs = append(envs, string(r.Env))
						}
					}
				}
				a := api.Ans{Code: next(4), Version: next(12), Epoch: next(2), Name: b.name(keys[next(3)])}
				if len(envs) > 0 && next(3) > 0 {
					env := envs[next(len(envs))]
					a.Env = []byte(env)
					if next(4) > 0 {
						a.Name, a.Version = b.name(sealed[env].key), sealed[env].n
					}
				}
				if r.Kind == api.ReqPut && next(2) == 0 {
					a = api.Ans{Version: r.Version, Name: r.Name}
				}
				b.answers(a)
			}
			got := b.done()
			if x.Kind == api.OpGet && got.Version > 0 {
				v := version{key, got.Version}
				found := ""
				for env, w := range sealed {
					if w == v && values[env] == string(got.Value) {
						found = values[env]
					}
				}
				if found != string(got.Value) {
					t.Fatal("nobody has sealed it", v)
				}
				if was, is := accepted[v]; is && was != string(got.Value) {
					t.Fatal("two of one version", v)
				}
				accepted[v] = string(got.Value)
			}
			if x.Kind < api.OpRotate && got.Version > 0 && got.Code != api.ErrVersion {
				if got.Version < top[key] {
					t.Fatal("back", key, got.Version, top[key])
				}
				top[key] = got.Version
			}
			for _, k := range keys {
				if b.c.Seen(b.name(k)) < top[k] {
					t.Fatal("forgotten", k)
				}
			}
		}
	}
}
