package num

import (
	"bytes"
	"testing"

	"sealchain/api"
)

func TestExamples(t *testing.T) {
	b, e := Write().Num(2, 258).Count(300).Text([]byte{0x61, 0x62}).Bytes()
	if e != api.OK || !bytes.Equal(b, []byte{1, 2, 0x82, 0x2C, 2, 0x61, 0x62}) {
		t.Errorf("%x %d", b, e)
	}
}

// P1.1: what is written, and the errors of a writer.
func TestWriter(t *testing.T) {
	good := []struct {
		w    *Writer
		want []byte
	}{
		{Write(), nil},
		{&Writer{}, nil},
		{Write().Num(1, 0), []byte{0}},
		{Write().Num(1, 255), []byte{255}},
		{Write().Num(2, 65535), []byte{255, 255}},
		{Write().Num(4, 1<<32-1), []byte{255, 255, 255, 255}},
		{Write().Num(8, api.MaxNumber), []byte{0, 0x1F, 255, 255, 255, 255, 255, 255}},
		{Write().Count(0), []byte{0}},
		{Write().Count(127), []byte{0x7F}},
		{Write().Count(128), []byte{0x81, 0}},
		{Write().Count(16383), []byte{0xFF, 0x7F}},
		{Write().Count(api.MaxNumber), []byte{0x8F, 0xFF, 0xFF, 0xFF, 0xFF, 0xFF, 0xFF, 0x7F}},
		{Write().Text(nil), []byte{0}},
		{Write().Text([]byte("ab")), []byte{2, 'a', 'b'}},
		{Write().Raw([]byte("ab")).Raw(nil), []byte("ab")},
		{(&Writer{}).Raw([]byte{7}), []byte{7}},
	}
	for i, c := range good {
		if b, e := c.w.Bytes(); e != api.OK || !bytes.Equal(b, c.want) {
			t.Errorf("%d: %x %d", i, b, e)
		}
	}
	bad := []struct {
		w    *Writer
		want api.Errno
	}{
		{nil, api.ErrNil},
		{(*Writer)(nil).Num(1, 1).Count(1).Text(nil).Raw(nil), api.ErrNil},
		{Write().Num(3, 1), api.ErrArg},
		{Write().Num(0, 1), api.ErrArg},
		{Write().Num(-1, 1), api.ErrArg},
		{Write().Num(3, -1), api.ErrArg},
		{Write().Num(1, 256), api.ErrRange},
		{Write().Num(1, -1), api.ErrRange},
		{Write().Num(2, 65536), api.ErrRange},
		{Write().Num(4, 1<<32), api.ErrRange},
		{Write().Num(8, api.MaxNumber+1), api.ErrRange},
		{Write().Count(-1), api.ErrRange},
		{Write().Count(api.MaxNumber + 1), api.ErrRange},
		{Write().Num(3, 1).Count(-1).Num(1, 1), api.ErrArg},
	}
	for i, c := range bad {
		if b, e := c.w.Bytes(); e != c.want || b != nil {
			t.Errorf("%d: %x %d", i, b, e)
		}
	}
	w := Write()
	if w.Num(1, 1) != w || w.Count(1) != w || w.Text(nil) != w || w.Raw(nil) != w {
		t.Error("another writer")
	}
}

// P1.2, P1.3: the errors of a reader stay, and nothing remains.
func TestReaderErrors(t *testing.T) {
	cases := []struct {
		b    []byte
		read func(r *Reader) any
		want api.Errno
	}{
		{[]byte{1, 2, 3}, func(r *Reader) any { return r.Num(3) }, api.ErrArg},
		{nil, func(r *Reader) any { return r.Num(0) }, api.ErrArg},
		{[]byte{1}, func(r *Reader) any { return r.Num(2) }, api.ErrTrunc},
		{[]byte{0, 0x20, 0, 0, 0, 0, 0, 0}, func(r *Reader) any { return r.Num(8) }, api.ErrRange},
		{[]byte{255, 255, 255, 255, 255, 255, 255, 255}, func(r *Reader) any { return r.Num(8) }, api.ErrRange},
		{[]byte{0x80, 1}, func(r *Reader) any { return r.Count(9) }, api.ErrForm},
		{[]byte{0x80}, func(r *Reader) any { return r.Count(9) }, api.ErrForm},
		{[]byte{0x82}, func(r *Reader) any { return r.Count(9) }, api.ErrTrunc},
		{nil, func(r *Reader) any { return r.Count(9) }, api.ErrTrunc},
		{[]byte{0x0A}, func(r *Reader) any { return r.Count(9) }, api.ErrLimit},
		{[]byte{0}, func(r *Reader) any { return r.Count(-1) }, api.ErrLimit},
		{[]byte{0x81, 0x80, 0x80, 0x80, 0x80, 0x80, 0x80, 0x80}, func(r *Reader) any { return r.Count(9) }, api.ErrForm},
		{[]byte{0x81, 0x80, 0x80, 0x80, 0x80, 0x80, 0x80}, func(r *Reader) any { return r.Count(9) }, api.ErrTrunc},
		{[]byte{0x90, 0x80, 0x80, 0x80, 0x80, 0x80, 0x80, 0}, func(r *Reader) any { return r.Count(9) }, api.ErrRange},
		{[]byte{2, 7}, func(r *Reader) any { return r.Text(9) }, api.ErrTrunc},
		{[]byte{2, 7, 8}, func(r *Reader) any { return r.Text(1) }, api.ErrLimit},
		{[]byte{1}, func(r *Reader) any { return r.Raw(-1) }, api.ErrArg},
		{[]byte{1}, func(r *Reader) any { return r.Raw(2) }, api.ErrTrunc},
	}
	for i, c := range cases {
		r := Read(c.b)
		switch x := c.read(r).(type) {
		case int:
			if x != 0 {
				t.Errorf("%d: %d", i, x)
			}
		case []byte:
			if x != nil {
				t.Errorf("%d: %x", i, x)
			}
		}
		if r.Err() != c.want || r.End() != c.want || r.Left() != 0 {
			t.Errorf("%d: %d, %d left", i, r.Err(), r.Left())
		}
		r.Num(3)
		if r.Num(1) != 0 || r.Count(9) != 0 || len(r.Text(9)) != 0 || len(r.Raw(0)) != 0 || r.Raw(-1) != nil || r.Err() != c.want {
			t.Errorf("%d: the error did not stay: %d", i, r.Err())
		}
	}
}

// P1.3: readers of nothing.
func TestNoReader(t *testing.T) {
	var none *Reader
	if none.Num(1) != 0 || none.Num(3) != 0 || none.Count(1) != 0 || none.Text(1) != nil || none.Raw(0) != nil || none.Raw(-1) != nil {
		t.Error("a nil reader reads")
	}
	if none.Left() != 0 || none.Err() != api.OK || none.End() != api.OK {
		t.Error("a nil reader has an error")
	}
	zero := &Reader{}
	if zero.Left() != 0 || zero.Err() != api.OK || zero.End() != api.OK {
		t.Error("a zero reader has something")
	}
	if zero.Raw(0) != nil || zero.Err() != api.OK || zero.Num(1) != 0 || zero.Err() != api.ErrTrunc {
		t.Error("a zero reader reads")
	}
	r := Read([]byte{1, 2})
	if r.Left() != 2 || r.End() != api.ErrForm || r.Err() != api.OK || r.Num(1) != 1 || r.Left() != 1 || r.Num(1) != 2 || r.End() != api.OK {
		t.Error("Left, End")
	}
}

// P1.4: arguments are only read, and results are new memory.
func TestMemory(t *testing.T) {
	room := []byte{1, 2, 3, 4}
	w := Write().Raw(room[:2]).Raw([]byte{9})
	room[0] = 7
	b, _ := w.Bytes()
	b[1] = 8
	again, _ := w.Bytes()
	if !bytes.Equal(again, []byte{1, 2, 9}) || room[2] != 3 {
		t.Error(again, room)
	}
	in := []byte{2, 5, 6, 7, 8}
	r := Read(in)
	in[1] = 0
	text := r.Text(9)
	if !bytes.Equal(text, []byte{5, 6}) {
		t.Error(text)
	}
	text = append(text, 99)
	text[0] = 98
	raw := r.Raw(2)
	if !bytes.Equal(raw, []byte{7, 8}) || in[2] != 6 {
		t.Error(raw, in)
	}
}

// P1.5: what was encoded is decoded, and what follows remains.
func TestRound(t *testing.T) {
	for _, n := range []int{0, 1, 127, 128, 255, 256, 16383, 16384, 65535, 1 << 31, 1<<32 - 1, 1 << 49, 1<<49 - 1, api.MaxNumber} {
		w := Write().Count(n).Num(8, n)
		if n < 1<<16 {
			w.Num(2, n)
		}
		b, _ := w.Text([]byte("end")).Raw([]byte{0xFF}).Bytes()
		r := Read(b)
		if r.Count(n) != n || r.Num(8) != n || n < 1<<16 && r.Num(2) != n || string(r.Text(3)) != "end" || r.Left() != 1 || r.Num(1) != 255 || r.End() != api.OK {
			t.Error(n)
		}
	}
}

// P1.6: one encoding a count, in the order of the counts.
func TestCountOrder(t *testing.T) {
	last := []byte(nil)
	for _, n := range []int{0, 1, 5, 126, 127, 128, 129, 255, 256, 16383, 16384, 1 << 21, 1<<21 + 1, 1<<53 - 2, 1<<53 - 1} {
		b, _ := Write().Count(n).Bytes()
		if len(b) < len(last) || len(b) == len(last) && bytes.Compare(last, b) >= 0 {
			t.Errorf("%d: %x behind %x", n, b, last)
		}
		last = b
	}
	for i := range 1 << 16 {
		b := []byte{byte(i >> 8), byte(i)}
		r := Read(b)
		n := r.Count(api.MaxNumber)
		if r.Err() != api.OK {
			continue
		}
		again, _ := Write().Count(n).Bytes()
		if !bytes.Equal(again, b[:2-r.Left()]) {
			t.Fatalf("%x is read as %d", b, n)
		}
	}
}
