package net

import (
	"slices"
	"testing"

	"sealchain/api"
	"sealchain/pack"
)

func ask(from, to int) api.Packet { return api.Packet{Kind: api.PkAsk, From: from, To: to} }

// The chapter's examples.
func TestExamples(t *testing.T) {
	b, e := NewBox[int](2)
	if e != api.OK || !b.Put(5) || !b.Put(6) || b.Put(7) {
		t.Fatal(e)
	}
	if x, is := b.Take(); x != 5 || !is || b.Len() != 1 {
		t.Error(x, is)
	}
	empty, _ := NewBox[int](1)
	if x, is := empty.First(b); x != 6 || !is {
		t.Error(x, is)
	}
	if x, is := empty.First(b); x != 0 || is {
		t.Error(x, is)
	}
	n := New()
	if n.Put(ask(20, 0)) != api.OK || n.Put(ask(20, 1)) != api.OK || n.Twice(0) != api.OK {
		t.Error("Put")
	}
	if p, e := n.Take(1); e != api.OK || !pack.Same(p, ask(20, 1)) {
		t.Error(p, e)
	}
	if n.Len() != 2 || n.Count() != 3 || !slices.Equal(n.To(0), []int{0, 1}) {
		t.Error(n.Len(), n.Count(), n.To(0))
	}
}

// P12.1: boxes that may not be, nil and zero ones.
func TestBox(t *testing.T) {
	for _, room := range []int{-1, 0, 65, 1 << 40} {
		if b, e := NewBox[string](room); b != nil || e != api.ErrArg {
			t.Error(room, e)
		}
	}
	full, e := NewBox[int](64)
	if e != api.OK {
		t.Fatal(e)
	}
	for i := range 64 {
		if !full.Put(i) {
			t.Error(i)
		}
	}
	if full.Put(64) || full.Len() != 64 {
		t.Error("65 items")
	}
	var none *Box[int]
	for i, b := range []*Box[int]{none, {}} {
		if b.Put(1) || b.Len() != 0 {
			t.Error("has room", i)
		}
		if x, is := b.Take(); x != 0 || is {
			t.Error("has something", i)
		}
		if x, is := b.First(full); x != i || !is {
			t.Error("First", x, is)
		}
		if x, is := b.First(none); x != 0 || is {
			t.Error("First of none", x, is)
		}
	}
	if x, is := full.First(none); x != 2 || !is {
		t.Error(x, is)
	}
}

// P12.2, P12.3: what may not be put, and indices that do not exist.
func TestNetInvalid(t *testing.T) {
	n := New()
	if n.Put(api.Packet{}) != api.ErrArg || n.Put(api.Packet{Kind: api.PkAsk, From: 20, To: 5}) != api.ErrArg || n.Count() != 0 {
		t.Error("Put")
	}
	n.Put(ask(20, 0))
	for _, i := range []int{-1, 1, 1 << 40} {
		if p, e := n.Take(i); e != api.ErrRange || !pack.Same(p, api.Packet{}) {
			t.Error(i, e)
		}
		if p, e := n.At(i); e != api.ErrRange || !pack.Same(p, api.Packet{}) {
			t.Error(i, e)
		}
		if n.Drop(i) != api.ErrRange || n.Twice(i) != api.ErrRange {
			t.Error(i)
		}
	}
	for n.Len() < 2000 {
		n.Put(ask(20, 0))
	}
	if n.Put(ask(20, 1)) != api.ErrLimit || n.Put(api.Packet{}) != api.ErrArg || n.Twice(0) != api.ErrLimit || n.Twice(2000) != api.ErrRange {
		t.Error("a full net")
	}
	if n.Len() != 2000 || n.Count() != 2000 || n.Drop(7) != api.OK || n.Twice(1) != api.OK || n.Count() != 2001 || n.Len() != 2000 {
		t.Error(n.Len(), n.Count())
	}
}

// Nil and zero nets.
func TestNoNet(t *testing.T) {
	for _, n := range []*Net{nil, {}} {
		if n.Put(ask(20, 0)) != api.ErrNil || n.Drop(0) != api.ErrNil || n.Twice(0) != api.ErrNil {
			t.Error("no ErrNil")
		}
		if _, e := n.Take(0); e != api.ErrNil {
			t.Error(e)
		}
		if _, e := n.At(0); e != api.ErrNil {
			t.Error(e)
		}
		if n.Len() != 0 || n.Count() != 0 || n.To(0) != nil {
			t.Error("has something")
		}
	}
}

// P12.3: At leaves a packet where it is, Drop does not.
func TestAt(t *testing.T) {
	n := New()
	for to := range 3 {
		n.Put(ask(20, to))
	}
	if p, e := n.At(1); e != api.OK || p.To != 1 || n.Len() != 3 {
		t.Error(p, e)
	}
	if n.Drop(1) != api.OK || n.Len() != 2 || n.Count() != 3 || len(n.To(1)) != 0 || !slices.Equal(n.To(2), []int{1}) || n.To(9) != nil {
		t.Error("Drop")
	}
}

// P12.4: memory.
func TestMemory(t *testing.T) {
	n := New()
	p := api.Packet{Kind: api.PkState, From: 10, To: 11, Bytes: []byte{1}}
	n.Put(p)
	p.Bytes[0] = 2
	a, _ := n.At(0)
	if a.Bytes[0] != 1 {
		t.Error("Put keeps")
	}
	a.Bytes[0] = 3
	n.Twice(0)
	x, _ := n.Take(0)
	if x.Bytes[0] != 1 {
		t.Error("At shares")
	}
	x.Bytes[0] = 4
	y, _ := n.Take(0)
	if y.Bytes[0] != 1 {
		t.Error("Twice shares")
	}
	b, _ := NewBox[*int](1)
	one := 1
	b.Put(&one)
	if got, _ := b.Take(); got != &one {
		t.Error("items are stored as they are")
	}
}

// P12.5: items come in their order, once.
func TestBoxOrder(t *testing.T) {
	b, _ := NewBox[int](5)
	put, took := 0, 0
	state := uint32(3)
	for range 3000 {
		state = state*1664525 + 1013904223
		if state>>31 == 0 {
			if b.Put(put) != (put-took < 5) {
				t.Fatal("Put")
			}
			put = min(put+1, took+5)
			continue
		}
		x, is := b.Take()
		if is != (put > took) || is && x != took {
			t.Fatal(x, is, took)
		}
		if is {
			took++
		}
		if b.Len() != put-took {
			t.Fatal(b.Len())
		}
	}
}

// P12.6: a net is what was put, in that order.
func TestNetOrder(t *testing.T) {
	n := New()
	var want []api.Packet
	count := 0
	state := uint32(3)
	for i := range 3000 {
		state = state*1664525 + 1013904223
		k := int(state>>8) % 40
		switch state >> 30 {
		case 0, 1:
			p := api.Packet{Kind: api.PkAck, From: 10, To: 11 + i%2, Seq: i}
			n.Put(p)
			want = append(want, p)
			count++
		case 2:
			if n.Twice(k) == api.OK {
				want = append(want, want[k])
				count++
			}
		case 3:
			p, e := n.Take(k)
			if (e == api.OK) != (k < len(want)) || e == api.OK && !pack.Same(p, want[k]) {
				t.Fatal(k, e)
			}
			if e == api.OK {
				want = slices.Delete(want, k, k+1)
			}
		}
		if n.Len() != len(want) || n.Count() != count {
			t.Fatal(n.Len(), n.Count())
		}
	}
	for i, p := range want {
		if q, e := n.At(i); e != api.OK || !pack.Same(p, q) {
			t.Error(i, e)
		}
	}
}
