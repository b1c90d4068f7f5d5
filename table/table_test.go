package table

import (
	"bytes"
	"slices"
	"testing"

	"sealchain/api"
	"sealchain/num"
	"sealchain/sha"
)

var (
	n1 = api.Name{1}
	n2 = api.Name{2}
	x  = bytes.Repeat([]byte{7}, 45)
	y  = bytes.Repeat([]byte{8}, 93)
)

func asPut(n int, name api.Name, version int, env []byte) api.Req {
	return api.Req{Client: 1, Num: n, Kind: api.ReqPut, Name: name, Version: version, Env: env}
}

func sameAns(a, b api.Ans) bool {
	ea, eb := a.Env, b.Env
	a.Env, b.Env = nil, nil
	return a.Client == b.Client && a.Num == b.Num && a.Code == b.Code && a.Version == b.Version && a.Epoch == b.Epoch && a.Name == b.Name && bytes.Equal(ea, eb)
}

func does(t *testing.T, b *Table, r api.Req, want api.Ans) {
	t.Helper()
	want.Client, want.Num = r.Client, r.Num
	if a, e := b.Do(r); e != api.OK || !sameAns(a, want) {
		t.Errorf("%v: %d, %v", r, e, a)
	}
}

// name is the i-th of many, in an order that is not theirs.
func name(i int) api.Name { return api.Name{byte(i * 37), byte(i)} }

// The chapter's examples, P18.1.
func TestExamples(t *testing.T) {
	b := New()
	does(t, b, asPut(1, n1, 2, x), api.Ans{Code: 2, Name: n1})
	does(t, b, asPut(2, n1, 1, x), api.Ans{Version: 1, Name: n1})
	does(t, b, asPut(2, n1, 1, y), api.Ans{Version: 1, Name: n1})
	does(t, b, api.Req{Client: 1, Num: 1, Kind: api.ReqGet, Name: n1}, api.Ans{Code: 3, Name: n1})
	does(t, b, asPut(3, n1, 1, y), api.Ans{Code: 2, Version: 1, Name: n1, Env: x})
	does(t, b, api.Req{Client: 1, Num: 4, Kind: api.ReqGet, Name: n1}, api.Ans{Version: 1, Name: n1, Env: x})
	does(t, b, api.Req{Client: 1, Num: 5, Kind: api.ReqNext}, api.Ans{Version: 1, Name: n1, Env: x})
	does(t, b, api.Req{Client: 1, Num: 6, Kind: api.ReqEpoch, Version: 1}, api.Ans{Version: 1, Epoch: 1})
	does(t, b, api.Req{Client: 1, Num: 7, Kind: api.ReqEpoch, Version: 1}, api.Ans{Code: 2, Version: 1, Epoch: 1})
	if !bytes.Equal(New().Bytes(), []byte{0, 0, 0}) {
		t.Error(New().Bytes())
	}
}

// Nil and zero tables.
func TestNone(t *testing.T) {
	for _, b := range []*Table{nil, {}} {
		if a, e := b.Do(api.Req{}); !sameAns(a, api.Ans{}) || e != api.ErrNil {
			t.Error(e)
		}
		v, env := b.Get(n1)
		_, is := b.Last(0)
		if v != 0 || env != nil || is || b.Names() != nil || b.Epoch() != 0 || b.Bytes() != nil || b.Copy() != nil || b.Sum() != [32]byte{} {
			t.Error("is something")
		}
	}
}

// P18.1: requests that may not be.
func TestCheck(t *testing.T) {
	b := New()
	b.Do(asPut(9, n1, 1, x))
	before := b.Bytes()
	for i, r := range []api.Req{
		{},
		{Client: 3, Num: 1, Kind: api.ReqGet},
		{Client: -1, Num: 1, Kind: api.ReqGet},
		{Num: 0, Kind: api.ReqGet},
		{Num: api.MaxNumber + 1, Kind: api.ReqGet},
		{Num: 1, Kind: 0},
		{Num: 1, Kind: 5},
		{Num: 1, Kind: -1},
		{Num: 1, Kind: api.ReqGet, Version: 1},
		{Num: 1, Kind: api.ReqGet, Env: x},
		{Num: 1, Kind: api.ReqNext, Version: 1},
		{Num: 1, Kind: api.ReqNext, Env: x},
		{Num: 1, Kind: api.ReqPut, Version: 0, Env: x},
		{Num: 1, Kind: api.ReqPut, Version: api.MaxNumber + 1, Env: x},
		{Num: 1, Kind: api.ReqPut, Version: 1},
		{Num: 1, Kind: api.ReqPut, Version: 1, Env: x[:44]},
		{Num: 1, Kind: api.ReqPut, Version: 1, Env: make([]byte, 1024)},
		{Num: 1, Kind: api.ReqEpoch, Version: 0},
		{Num: 1, Kind: api.ReqEpoch, Version: 256},
		{Num: 1, Kind: api.ReqEpoch, Version: 1, Name: n1},
		{Num: 1, Kind: api.ReqEpoch, Version: 1, Env: x},
	} {
		a, e := b.Do(r)
		if Check(r) != api.ErrArg || e != api.ErrArg || !sameAns(a, api.Ans{}) {
			t.Error(i, e)
		}
	}
	if !bytes.Equal(b.Bytes(), before) {
		t.Error("an error changed something")
	}
	for i, r := range []api.Req{
		{Client: 2, Num: api.MaxNumber, Kind: api.ReqGet, Name: n1},
		{Num: 1, Kind: api.ReqPut, Version: api.MaxNumber, Env: make([]byte, 285)},
		{Num: 1, Kind: api.ReqEpoch, Version: 255},
	} {
		if Check(r) != api.OK {
			t.Error(i)
		}
	}
}

// P18.1: what the kinds do.
func TestDo(t *testing.T) {
	b := New()
	get := func(n int, name api.Name) api.Req {
		return api.Req{Client: 1, Num: n, Kind: api.ReqGet, Name: name}
	}
	next := func(n int, name api.Name) api.Req {
		return api.Req{Client: 1, Num: n, Kind: api.ReqNext, Name: name}
	}
	does(t, b, get(1, n1), api.Ans{Code: 1, Name: n1})
	does(t, b, next(2, n1), api.Ans{Code: 1, Name: n1})
	does(t, b, asPut(3, n2, 1, x), api.Ans{Version: 1, Name: n2})
	does(t, b, asPut(4, n2, 2, y), api.Ans{Version: 2, Name: n2})
	does(t, b, asPut(5, n1, 1, y), api.Ans{Version: 1, Name: n1})
	does(t, b, asPut(6, n2, 2, x), api.Ans{Code: 2, Version: 2, Name: n2, Env: y})
	does(t, b, asPut(7, n2, 4, x), api.Ans{Code: 2, Version: 2, Name: n2, Env: y})
	does(t, b, next(8, api.Name{}), api.Ans{Version: 1, Name: n1, Env: y})
	does(t, b, next(9, n1), api.Ans{Version: 2, Name: n2, Env: y})
	does(t, b, next(10, n2), api.Ans{Code: 1, Name: n2})
	does(t, b, next(11, api.Name{1, 31: 1}), api.Ans{Version: 2, Name: n2, Env: y})
	does(t, b, api.Req{Client: 1, Num: 12, Kind: api.ReqEpoch, Version: 2}, api.Ans{Code: 2})
	does(t, b, api.Req{Client: 1, Num: 13, Kind: api.ReqEpoch, Version: 1}, api.Ans{Version: 1, Epoch: 1})
	does(t, b, get(14, n2), api.Ans{Version: 2, Name: n2, Env: y, Epoch: 1})
	does(t, b, get(2, n2), api.Ans{Code: 3, Name: n2, Epoch: 1})
	does(t, b, api.Req{Client: 2, Num: 2, Kind: api.ReqGet, Name: n1}, api.Ans{Version: 1, Name: n1, Env: y, Epoch: 1})
	does(t, b, get(14, n1), api.Ans{Version: 2, Name: n2, Env: y, Epoch: 1})
}

// P18.1: 64 names.
func TestFull(t *testing.T) {
	b := New()
	for i := range 64 {
		does(t, b, asPut(i+1, name(i), 1, x), api.Ans{Version: 1, Name: name(i)})
	}
	does(t, b, asPut(65, api.Name{9, 9, 9}, 1, x), api.Ans{Code: 2, Name: api.Name{9, 9, 9}})
	does(t, b, asPut(66, name(5), 2, y), api.Ans{Version: 2, Name: name(5)})
	if len(b.Names()) != 64 {
		t.Error(len(b.Names()))
	}
}

// P18.2: what there is.
func TestGet(t *testing.T) {
	b := New()
	b.Do(asPut(5, n2, 1, y))
	b.Do(asPut(6, n1, 1, x))
	b.Do(asPut(6, n1, 2, y))
	b.Do(asPut(1, n1, 2, y))
	if v, env := b.Get(n1); v != 1 || !bytes.Equal(env, x) {
		t.Error(v, env)
	}
	if v, env := b.Get(api.Name{}); v != 0 || env != nil {
		t.Error(v, env)
	}
	if !slices.Equal(b.Names(), []api.Name{n1, n2}) || b.Epoch() != 0 {
		t.Error(b.Names())
	}
	if a, is := b.Last(1); !is || !sameAns(a, api.Ans{Client: 1, Num: 6, Version: 1, Name: n1}) {
		t.Error(a, is)
	}
	for _, client := range []int{0, 2, 3, -1} {
		if a, is := b.Last(client); is || !sameAns(a, api.Ans{}) {
			t.Error(client, a)
		}
	}
}

// P18.3: the encoding.
func TestBytes(t *testing.T) {
	b := New()
	b.Do(api.Req{Client: 2, Num: 300, Kind: api.ReqEpoch, Version: 1})
	b.Do(asPut(1, n2, 1, y))
	b.Do(asPut(2, n1, 1, x))
	b.Do(api.Req{Client: 1, Num: 9, Kind: api.ReqGet, Name: n2})
	want, _ := num.Write().Num(1, 1).Count(2).Raw(n1[:]).Count(1).Text(x).Raw(n2[:]).Count(1).Text(y).
		Count(2).Num(1, 1).Count(9).Num(1, 0).Count(1).Num(1, 1).Raw(n2[:]).Text(y).
		Num(1, 2).Count(300).Num(1, 0).Count(1).Num(1, 1).Raw(make([]byte, 32)).Text(nil).Bytes()
	if !bytes.Equal(b.Bytes(), want) || b.Sum() != sha.Sum(want) {
		t.Errorf("%x", b.Bytes())
	}
	for n := range want {
		if o, e := Open(want[:n]); o != nil || e != api.ErrTrunc {
			t.Error(n, e)
		}
	}
	o, e := Open(want)
	if e != api.OK || !bytes.Equal(o.Bytes(), want) {
		t.Error(e)
	}
}

// P18.3: bytes that are no table.
func TestOpenInvalid(t *testing.T) {
	head := func(n int) *num.Writer { return num.Write().Num(1, 0).Count(n) }
	object := func(w *num.Writer, name api.Name, version int, env []byte) *num.Writer {
		return w.Raw(name[:]).Count(version).Text(env)
	}
	answer := func(w *num.Writer, client, n, code int, env []byte) *num.Writer {
		return w.Num(1, client).Count(n).Num(1, code).Count(0).Num(1, 0).Raw(n1[:]).Text(env)
	}
	for i, c := range []struct {
		w    *num.Writer
		want api.Errno
	}{
		{head(0).Count(0), api.OK},
		{head(0).Count(0).Num(1, 0), api.ErrForm},
		{head(65), api.ErrLimit},
		{head(0).Count(4), api.ErrLimit},
		{head(0).Raw([]byte{0x80}), api.ErrForm},
		{object(head(1), n1, 1, x).Count(0), api.OK},
		{object(head(1), api.Name{}, 1, x).Count(0), api.OK},
		{object(head(1), n1, 0, x).Count(0), api.ErrForm},
		{object(head(1), n1, 0, x), api.ErrTrunc},
		{object(head(1), n1, 1, nil).Count(0), api.ErrForm},
		{object(head(1), n1, 1, x[:44]).Count(0), api.ErrForm},
		{object(head(1), n1, 1, make([]byte, 286)).Count(0), api.ErrLimit},
		{object(head(1), n1, 0, make([]byte, 286)).Count(0), api.ErrLimit},
		{object(object(head(2), n1, 1, x), n2, 1, y).Count(0), api.OK},
		{object(object(head(2), n2, 1, x), n1, 1, y).Count(0), api.ErrForm},
		{object(object(head(2), n1, 1, x), n1, 1, y).Count(0), api.ErrForm},
		{answer(head(0).Count(1), 2, 1, 2, y), api.OK},
		{answer(head(0).Count(1), 3, 1, 2, y), api.ErrForm},
		{answer(head(0).Count(1), 2, 0, 2, y), api.ErrForm},
		{answer(head(0).Count(1), 2, 1, 3, y), api.ErrForm},
		{answer(head(0).Count(1), 2, 1, 2, x[:1]), api.ErrForm},
		{answer(head(0).Count(1), 2, 1, 2, make([]byte, 286)), api.ErrLimit},
		{answer(answer(head(0).Count(2), 0, 1, 0, nil), 2, 1, 0, nil), api.OK},
		{answer(answer(head(0).Count(2), 2, 1, 0, nil), 0, 1, 0, nil), api.ErrForm},
		{answer(answer(head(0).Count(2), 2, 1, 0, nil), 2, 1, 0, nil), api.ErrForm},
		{answer(answer(answer(head(0).Count(3), 0, 1, 0, nil), 1, 1, 0, nil), 2, 1, 0, nil), api.OK},
	} {
		b, _ := c.w.Bytes()
		o, e := Open(b)
		if e != c.want || (o == nil) != (e != api.OK) {
			t.Error(i, e)
		}
		if e == api.OK && !bytes.Equal(o.Bytes(), b) {
			t.Error(i)
		}
	}
}

// P18.4: memory.
func TestMemory(t *testing.T) {
	b := New()
	env := bytes.Clone(x)
	b.Do(asPut(1, n1, 1, env))
	clear(env)
	get := api.Req{Client: 1, Num: 2, Kind: api.ReqGet, Name: n1}
	a, _ := b.Do(get)
	clear(a.Env)
	a, _ = b.Do(get)
	clear(a.Env)
	a, _ = b.Last(1)
	clear(a.Env)
	_, got := b.Get(n1)
	clear(got)
	clear(b.Names())
	b.Do(api.Req{Client: 0, Num: 1, Kind: api.ReqEpoch, Version: 1})
	c := b.Copy()
	if !bytes.Equal(c.Bytes(), b.Bytes()) {
		t.Error("a copy differs")
	}
	c.Do(asPut(3, n1, 2, y))
	c.Do(api.Req{Client: 2, Num: 1, Kind: api.ReqEpoch, Version: 2})
	want := New()
	want.Do(asPut(1, n1, 1, x))
	want.Do(get)
	want.Do(api.Req{Client: 0, Num: 1, Kind: api.ReqEpoch, Version: 1})
	if !bytes.Equal(b.Bytes(), want.Bytes()) {
		t.Error("shared")
	}
}

// random is requests of all kinds, by a seed.
func random(seed uint32, n int) []api.Req {
	next := func(n int) int {
		seed = seed*1664525 + 1013904223
		return int(seed>>8) % n
	}
	var all []api.Req
	for i := range n {
		r := api.Req{Client: next(3), Num: i/2 + 1 + next(3), Kind: 1 + next(4)}
		if r.Kind != api.ReqEpoch {
			r.Name = api.Name{byte(next(5))}
		}
		if r.Kind == api.ReqPut {
			r.Version, r.Env = 1+next(6), bytes.Repeat([]byte{byte(i)}, 45)
		}
		if r.Kind == api.ReqEpoch {
			r.Version = 1 + next(5)
		}
		all = append(all, r)
	}
	return all
}

// P18.5: nothing is executed twice, and versions go up by one.
func TestOnce(t *testing.T) {
	b := New()
	for _, r := range random(3, 3000) {
		before, _ := b.Get(r.Name)
		last, _ := b.Last(r.Client)
		bytesBefore := b.Bytes()
		a, _ := b.Do(r)
		after, _ := b.Get(r.Name)
		if r.Kind == api.ReqPut && after != before && after != before+1 {
			t.Fatal(before, after)
		}
		if r.Num <= last.Num && (!bytes.Equal(b.Bytes(), bytesBefore) || r.Num == last.Num && !sameAns(a, last) || r.Num < last.Num && a.Code != api.AnsOld) {
			t.Fatal("executed again", r)
		}
	}
}

// P18.6: the same requests make the same table, also from its encoding.
func TestSame(t *testing.T) {
	all := random(9, 1000)
	a, b := New(), New()
	for i, r := range all {
		x, _ := a.Do(r)
		y, _ := b.Do(r)
		if !sameAns(x, y) || a.Sum() != b.Sum() {
			t.Fatal(i)
		}
		o, e := Open(b.Bytes())
		if e != api.OK {
			t.Fatal(e)
		}
		b = o
	}
}
