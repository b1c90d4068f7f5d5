package mark

import (
	"bytes"
	"testing"

	"sealchain/api"
	"sealchain/num"
	"sealchain/sha"
)

var (
	n1 = api.Name{1}
	n2 = api.Name{2}
	ea = []byte("a")
	eb = []byte("b")
)

// name is the i-th of many, in an order that is not theirs.
func name(i int) api.Name { return api.Name{byte(i * 37), byte(i)} }

// The chapter's examples.
func TestExamples(t *testing.T) {
	m := New()
	for i, c := range []struct{ got, want api.Errno }{
		{m.Judge(n1, 0, nil), api.OK},
		{m.Note(n1, 3, ea), api.OK},
		{m.Judge(n1, 2, eb), api.ErrRoll},
		{m.Judge(n1, 3, eb), api.ErrFork},
		{m.Judge(n1, 3, ea), api.OK},
		{m.Judge(n1, 0, nil), api.ErrRoll},
	} {
		if c.got != c.want {
			t.Error(i, c.got)
		}
	}
	m = New()
	if !bytes.Equal(m.Bytes(), []byte{0, 0, 0}) {
		t.Error(m.Bytes())
	}
	a, _ := m.Born()
	b, _ := m.Born()
	if a != 1 || b != 2 || m.Raise(2) != api.OK || m.Raise(1) != api.ErrState || m.Life() != 2 || m.Epoch() != 2 {
		t.Error(a, b)
	}
}

// Nil and zero marks.
func TestNone(t *testing.T) {
	for _, m := range []*Marks{nil, {}} {
		if n, e := m.Born(); n != 0 || e != api.ErrNil {
			t.Error(n, e)
		}
		if m.Raise(-1) != api.ErrNil || m.Judge(n1, -1, nil) != api.ErrNil || m.Note(n1, -1, nil) != api.ErrNil {
			t.Error("no ErrNil")
		}
		if m.Life() != 0 || m.Epoch() != 0 || m.Version(n1) != 0 || m.Len() != 0 || m.Bytes() != nil || m.Copy() != nil {
			t.Error("is something")
		}
	}
}

// P10.1: lives and epochs.
func TestLifeEpoch(t *testing.T) {
	b, _ := num.Write().Count(1<<20-1).Num(1, 255).Count(0).Bytes()
	m, e := Open(b)
	if e != api.OK || m.Epoch() != 255 {
		t.Fatal(e)
	}
	if n, e := m.Born(); n != 1<<20 || e != api.OK {
		t.Error(n, e)
	}
	if n, e := m.Born(); n != 0 || e != api.ErrLimit || m.Life() != 1<<20 {
		t.Error(n, e)
	}
	m = New()
	for _, c := range []struct {
		epoch int
		want  api.Errno
	}{{-1, api.ErrArg}, {256, api.ErrArg}, {0, api.OK}, {7, api.OK}, {7, api.OK}, {6, api.ErrState}, {-1, api.ErrArg}, {255, api.OK}, {256, api.ErrArg}} {
		if m.Raise(c.epoch) != c.want {
			t.Error(c)
		}
	}
	if m.Epoch() != 255 {
		t.Error(m.Epoch())
	}
}

// P10.2: Judge.
func TestJudge(t *testing.T) {
	m := New()
	m.Note(n1, 5, ea)
	for i, c := range []struct {
		name    api.Name
		version int
		env     []byte
		want    api.Errno
	}{
		{n1, -1, nil, api.ErrArg},
		{n1, -1, ea, api.ErrArg},
		{n1, 0, ea, api.ErrArg},
		{n1, 5, nil, api.ErrArg},
		{n1, 6, []byte{}, api.ErrArg},
		{n1, api.MaxNumber + 1, ea, api.ErrArg},
		{n1, api.MaxNumber, eb, api.OK},
		{n1, 6, eb, api.OK},
		{n1, 5, ea, api.OK},
		{n1, 5, eb, api.ErrFork},
		{n1, 4, ea, api.ErrRoll},
		{n1, 0, []byte{}, api.ErrRoll},
		{n2, 0, nil, api.OK},
		{n2, 1, eb, api.OK},
	} {
		if e := m.Judge(c.name, c.version, c.env); e != c.want {
			t.Error(i, e)
		}
	}
	if m.Len() != 1 || m.Version(n1) != 5 {
		t.Error("Judge noted something")
	}
}

// P10.3: Note.
func TestNote(t *testing.T) {
	m := New()
	if m.Note(n1, 0, nil) != api.OK || m.Len() != 0 || m.Note(n1, 0, ea) != api.ErrArg {
		t.Error("no version")
	}
	for i := range 64 {
		if m.Note(name(i), i+1, ea) != api.OK || m.Len() != i+1 {
			t.Error(i)
		}
	}
	other := api.Name{31: 7}
	if m.Note(other, 1, ea) != api.ErrLimit || m.Note(other, 0, nil) != api.OK || m.Note(other, -1, nil) != api.ErrArg || m.Len() != 64 || m.Version(other) != 0 {
		t.Error("65 names")
	}
	if m.Note(name(3), 3, ea) != api.ErrRoll || m.Note(name(3), 4, eb) != api.ErrFork || m.Note(name(3), 4, ea) != api.OK || m.Version(name(3)) != 4 {
		t.Error("the same version")
	}
	if m.Note(name(3), 9, eb) != api.OK || m.Version(name(3)) != 9 || m.Judge(name(3), 9, ea) != api.ErrFork {
		t.Error("a greater version")
	}
}

// P10.4: the encoding.
func TestBytes(t *testing.T) {
	m := New()
	m.Born()
	m.Raise(9)
	m.Note(n2, 300, eb)
	m.Note(n1, 1, ea)
	sa, sb := sha.Sum(ea), sha.Sum(eb)
	want, _ := num.Write().Count(1).Num(1, 9).Count(2).Raw(n1[:]).Count(1).Raw(sa[:]).Raw(n2[:]).Count(300).Raw(sb[:]).Bytes()
	if !bytes.Equal(m.Bytes(), want) {
		t.Errorf("%x", m.Bytes())
	}
	o, e := Open(want)
	if e != api.OK || o.Life() != 1 || o.Epoch() != 9 || o.Len() != 2 || o.Version(n2) != 300 || o.Judge(n2, 300, ea) != api.ErrFork || o.Judge(n2, 300, eb) != api.OK {
		t.Error(e)
	}
	for n := range want {
		if o, e := Open(want[:n]); o != nil || e != api.ErrTrunc {
			t.Error(n, e)
		}
	}
}

// P10.4: bytes that are no marks.
func TestOpenInvalid(t *testing.T) {
	row := func(w *num.Writer, n api.Name, version int) *num.Writer {
		return w.Raw(n[:]).Count(version).Raw(make([]byte, 32))
	}
	head := func(life, names int) *num.Writer { return num.Write().Count(life).Num(1, 0).Count(names) }
	for i, c := range []struct {
		w    *num.Writer
		want api.Errno
	}{
		{num.Write(), api.ErrTrunc},
		{num.Write().Raw([]byte{0x80}), api.ErrForm},
		{num.Write().Raw([]byte{0x90, 0x80, 0x80, 0x80, 0x80, 0x80, 0x80, 0}), api.ErrRange},
		{head(0, 0).Num(1, 0), api.ErrForm},
		{head(1<<20, 0), api.OK},
		{head(1<<20+1, 0), api.ErrForm},
		{head(api.MaxNumber, 1), api.ErrTrunc},
		{head(0, 65), api.ErrLimit},
		{head(api.MaxNumber, 65), api.ErrLimit},
		{row(head(0, 1), n1, 0), api.ErrForm},
		{row(head(0, 1), api.Name{}, 1), api.OK},
		{row(row(head(0, 2), n1, 1), n2, 1), api.OK},
		{row(row(head(0, 2), n2, 1), n1, 1), api.ErrForm},
		{row(row(head(0, 2), n1, 1), n1, 1), api.ErrForm},
		{row(row(head(0, 3), n2, 1), n1, 1), api.ErrTrunc},
	} {
		b, _ := c.w.Bytes()
		m, e := Open(b)
		if e != c.want || (m == nil) != (e != api.OK) {
			t.Error(i, e)
		}
	}
}

// P10.5: memory, and errors that change nothing.
func TestMemory(t *testing.T) {
	m := New()
	env := []byte("env")
	m.Note(n1, 2, env)
	env[0] = 0
	if m.Judge(n1, 2, []byte("env")) != api.OK {
		t.Error("kept")
	}
	m.Born()
	m.Raise(2)
	before := m.Bytes()
	c := m.Copy()
	if !bytes.Equal(c.Bytes(), before) {
		t.Error("a copy differs")
	}
	c.Note(n1, 3, ea)
	c.Note(n2, 3, ea)
	c.Born()
	c.Raise(3)
	m.Note(n1, 1, ea)
	m.Note(n1, 2, ea)
	m.Raise(300)
	if !bytes.Equal(m.Bytes(), before) {
		t.Error("changed")
	}
	clear(m.Bytes())
	if !bytes.Equal(m.Bytes(), before) {
		t.Error("shared")
	}
	o, _ := Open(before)
	clear(before)
	if o.Version(n1) != 2 {
		t.Error("Open keeps its argument")
	}
}

// P10.6, P10.7: nothing ever goes back, and there is one encoding.
func TestNeverBack(t *testing.T) {
	m := New()
	top := map[api.Name]int{}
	state := uint32(7)
	for range 2000 {
		state = state*1664525 + 1013904223
		n, v, env := name(int(state>>28)), int(state>>16&15), []byte{byte(state >> 12 & 3)}
		e := m.Note(n, v, env)
		if v < top[n] && e == api.OK {
			t.Fatal("back", n, v)
		}
		if e == api.OK && v > top[n] {
			top[n] = v
		}
		if e == api.OK && m.Judge(n, v, []byte{9}) == api.OK {
			t.Fatal("fork")
		}
		again, e := Open(m.Bytes())
		if e != api.OK || !bytes.Equal(again.Bytes(), m.Bytes()) {
			t.Fatal(e)
		}
		m = again
	}
}
