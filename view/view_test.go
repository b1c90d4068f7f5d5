package view

import (
	"bytes"
	"slices"
	"testing"

	"sealchain/api"
	"sealchain/num"
	"sealchain/sha"
	"sealchain/world"
)

var (
	a = api.Row{Step: 1, Node: 10, Kind: 1, Bytes: []byte{7}}
	b = api.Row{Step: 3, Node: 0, Kind: 2, Bytes: []byte{8, 9}}
)

func of(t *testing.T, rows ...api.Row) *View {
	t.Helper()
	v, e := Of(rows)
	if e != api.OK {
		t.Fatal(e)
	}
	return v
}

func sameRows(x, y []api.Row) bool { return slices.EqualFunc(x, y, same) }

// The chapter's examples.
func TestExamples(t *testing.T) {
	if !bytes.Equal(New().Bytes(), []byte{0}) || !bytes.Equal(of(t, a, b).Bytes(), []byte{2, 1, 10, 1, 1, 7, 2, 0, 2, 2, 8, 9}) {
		t.Errorf("%x", of(t, a, b).Bytes())
	}
	if of(t, b).Add(a) != api.ErrArg {
		t.Error("an earlier step")
	}
	if of(t, a, b).First(of(t, a)) != 1 || of(t, a, b).First(of(t, b)) != 0 || of(t, a).First(of(t, a)) != -1 {
		t.Error("First")
	}
	if of(t, a, b).Many(10) != [3]int{1, 0, 0} {
		t.Error("Many")
	}
}

// Nil and zero views.
func TestNone(t *testing.T) {
	for _, v := range []*View{nil, {}} {
		r, e := v.At(0)
		if e != api.ErrNil || !same(r, api.Row{}) || v.Add(a) != api.ErrNil || v.Len() != 0 || v.Rows() != nil || v.Node(0) != nil || v.Until(5) != nil ||
			v.Bytes() != nil || v.Sum() != [32]byte{} || v.Many(10) != [3]int{} {
			t.Error("is something")
		}
		if v.First(nil) != -1 || v.First(&View{}) != -1 || v.First(New()) != -1 || v.First(of(t, a)) != 0 || of(t, a).First(v) != 0 || New().First(v) != -1 {
			t.Error("First")
		}
	}
}

// P24.1: rows that may not be.
func TestAdd(t *testing.T) {
	good := []api.Row{
		{Kind: 3}, {Node: 2, Kind: 1, Bytes: []byte{}}, {Node: 13, Kind: 2, Bytes: make([]byte, 65536)}, {Step: api.MaxNumber, Node: 10, Kind: 1},
	}
	v := of(t, good...)
	if v.Len() != 4 || !sameRows(v.Rows(), good) {
		t.Error(v.Len())
	}
	for i, r := range []api.Row{
		{Step: -1, Kind: 1},
		{Step: api.MaxNumber + 1, Kind: 1},
		{Node: 3, Kind: 1},
		{Node: -1, Kind: 1},
		{Node: 9, Kind: 1},
		{Node: 14, Kind: 1},
		{Node: 20, Kind: 1},
		{Kind: 0},
		{Kind: 4},
		{Kind: 1, Bytes: make([]byte, 65537)},
	} {
		x := New()
		if x.Add(r) != api.ErrArg || x.Len() != 0 {
			t.Error(i)
		}
		if x, e := Of([]api.Row{a, r}); x != nil || e != api.ErrArg {
			t.Error(i, e)
		}
	}
	if v.Add(a) != api.ErrArg || v.Len() != 4 {
		t.Error("an earlier step")
	}
	for i := range 4 {
		if r, e := v.At(i); e != api.OK || !same(r, good[i]) {
			t.Error(i, e)
		}
	}
	for _, i := range []int{-1, 4} {
		if r, e := v.At(i); e != api.ErrRange || !same(r, api.Row{}) {
			t.Error(i, e)
		}
	}
	many := make([]api.Row, 20001)
	for i := range many {
		many[i].Kind = 1
	}
	v = of(t, many[:20000]...)
	if v.Add(a) != api.ErrLimit || v.Add(api.Row{}) != api.ErrArg || v.Len() != 20000 {
		t.Error(v.Len())
	}
	if v, e := Of(many); v != nil || e != api.ErrLimit {
		t.Error(e)
	}
	if o, e := Open(v.Bytes()); e != api.OK || o.Len() != 20000 {
		t.Error(e)
	}
}

// P24.2, P24.7: parts of a view.
func TestParts(t *testing.T) {
	c := api.Row{Step: 3, Node: 10, Kind: 3}
	d := api.Row{Step: 4, Node: 10, Kind: 3}
	v := of(t, a, b, c, d)
	for node, want := range map[int][]api.Row{10: {a, c, d}, 0: {b}, 1: nil, -1: nil} {
		if !sameRows(v.Node(node).Rows(), want) {
			t.Error(node)
		}
	}
	for step, want := range map[int][]api.Row{-1: nil, 0: nil, 1: {a}, 2: {a}, 3: {a, b, c}, 4: {a, b, c, d}, 99: {a, b, c, d}} {
		if !sameRows(v.Until(step).Rows(), want) {
			t.Error(step)
		}
	}
	if v.Many(10) != [3]int{1, 0, 2} || v.Many(0) != [3]int{0, 1, 0} || v.Many(7) != [3]int{} {
		t.Error(v.Many(10))
	}
	total := 0
	for node := range 20 {
		total += v.Node(node).Len()
	}
	if total != v.Len() {
		t.Error(total)
	}
}

// P24.3, P24.6: First, and one encoding.
func TestFirst(t *testing.T) {
	base := []api.Row{a, b}
	for i, r := range []api.Row{
		{Step: 4, Node: 0, Kind: 2, Bytes: []byte{8, 9}},
		{Step: 3, Node: 1, Kind: 2, Bytes: []byte{8, 9}},
		{Step: 3, Node: 0, Kind: 3, Bytes: []byte{8, 9}},
		{Step: 3, Node: 0, Kind: 2, Bytes: []byte{8}},
		{Step: 3, Node: 0, Kind: 2, Bytes: []byte{8, 8}},
	} {
		v, o := of(t, base...), of(t, a, r)
		if v.First(o) != 1 || o.First(v) != 1 || bytes.Equal(v.Bytes(), o.Bytes()) || v.Sum() == o.Sum() {
			t.Error(i)
		}
	}
	v := of(t, base...)
	if o, e := Open(v.Bytes()); e != api.OK || v.First(o) != -1 || !bytes.Equal(v.Bytes(), o.Bytes()) || v.Sum() != sha.Sum(o.Bytes()) {
		t.Error(e)
	}
}

// P24.4: bytes that are no view.
func TestOpenInvalid(t *testing.T) {
	row := func(w *num.Writer, step, node, kind int, b []byte) *num.Writer {
		return w.Count(step).Num(1, node).Num(1, kind).Text(b)
	}
	for i, c := range []struct {
		w    *num.Writer
		want api.Errno
	}{
		{num.Write(), api.ErrTrunc},
		{num.Write().Count(20001), api.ErrLimit},
		{num.Write().Count(20000), api.ErrTrunc},
		{num.Write().Raw([]byte{0x80}), api.ErrForm},
		{num.Write().Count(0).Num(1, 0), api.ErrForm},
		{row(num.Write().Count(1), api.MaxNumber, 0, 1, nil), api.OK},
		{row(num.Write().Count(1), 1, 3, 1, nil), api.ErrForm},
		{row(num.Write().Count(2), 1, 3, 1, nil), api.ErrTrunc},
		{row(num.Write().Count(1), 1, 0, 0, nil), api.ErrForm},
		{row(num.Write().Count(1), 1, 0, 4, nil), api.ErrForm},
		{row(num.Write().Count(1), 1, 0, 3, make([]byte, 65536)), api.OK},
		{row(num.Write().Count(1), 1, 0, 3, make([]byte, 65537)), api.ErrLimit},
		{row(row(num.Write().Count(2), api.MaxNumber, 0, 1, nil), 0, 0, 1, nil), api.OK},
		{row(row(num.Write().Count(2), api.MaxNumber, 0, 1, nil), 1, 0, 1, nil), api.ErrForm},
		{row(row(num.Write().Count(3), api.MaxNumber, 0, 1, nil), api.MaxNumber, 0, 1, nil), api.ErrTrunc},
		{num.Write().Count(1).Raw([]byte{0x90, 0x80, 0x80, 0x80, 0x80, 0x80, 0x80, 0}), api.ErrRange},
	} {
		raw, _ := c.w.Bytes()
		v, e := Open(raw)
		if e != c.want || (v == nil) != (e != api.OK) {
			t.Error(i, e)
		}
		if e == api.OK && !bytes.Equal(v.Bytes(), raw) {
			t.Error(i)
		}
	}
	// So many steps that their sum would not fit into an int.
	w := num.Write().Count(5000)
	for range 5000 {
		row(w, api.MaxNumber, 0, 1, nil)
	}
	raw, _ := w.Bytes()
	if v, e := Open(raw); v != nil || e != api.ErrForm {
		t.Error(e)
	}
}

// P24.5: memory.
func TestMemory(t *testing.T) {
	r := api.Row{Step: 1, Node: 10, Kind: 1, Bytes: []byte{7}}
	v := of(t, r)
	r.Bytes[0] = 9
	x, _ := v.At(0)
	x.Bytes[0] = 9
	v.Rows()[0].Bytes[0] = 9
	clear(v.Bytes())
	o := v.Node(10)
	o.Add(b)
	raw := v.Bytes()
	p, _ := Open(raw)
	clear(raw)
	if v.First(of(t, a)) != -1 || p.First(v) != -1 || v.Len() != 1 {
		t.Error(v.Rows())
	}
}

// P24.8: in an ideal mode servers see the same, whatever the keys and values are.
func TestBlind(t *testing.T) {
	run := func(ideal bool, keys, values []string) *View {
		w, e := world.New(3, 2, 3, ideal, []byte("s"))
		if e != api.OK {
			t.Fatal(e)
		}
		state := uint32(11)
		next := func(n int) int {
			state = state*1664525 + 1013904223
			return int(state>>8) % n
		}
		for range 400 {
			x := api.Deed{Kind: 1 + next(6)}
			key, value := keys[next(len(keys))], values[next(len(values))]
			if x.Kind < api.OpRotate {
				x.Key = []byte(key)
			}
			if x.Kind == api.OpPut || x.Kind == api.OpPutIf {
				x.Value = []byte(value)
			}
			w.Ask(next(3), x)
			switch k := next(30); k {
			case 0:
				w.Arm(next(3)+10, next(50))
			case 1:
				w.Crash(next(3), 0)
			case 2:
				w.Crash(20+next(3), 0)
			case 3:
				w.Heal(3)
			default:
				w.Round()
			}
		}
		rows := w.Rows()
		return of(t, rows[:min(len(rows), 20000)]...)
	}
	long := string(make([]byte, 60))
	one := run(true, []string{"a", "b", "c"}, []string{"x", "longer than 13"})
	two := run(true, []string{"key", "", "other"}[:1:1], []string{"x"})
	if one.First(two) == -1 {
		t.Error("which keys are equal shows")
	}
	three := run(true, []string{"zz", "k", "0123456789abcdef"}, []string{"0123456789abc", long})
	if i := one.First(three); i != -1 {
		t.Error("something shows", i)
	}
	if run(false, []string{"a", "b", "c"}, []string{"x", "longer than 13"}).First(run(false, []string{"z", "b", "c"}, []string{"x", "longer than 13"})) == -1 {
		t.Error("in a real mode names differ")
	}
}
