package tape

import (
	"bytes"
	"crypto/sha256"
	"encoding/binary"
	"testing"
)

func filled(n int) []byte {
	b := make([]byte, n)
	for i := range b {
		b[i] = byte(i*3 + i>>8)
	}
	return b
}

// wanted is the first n bytes of a tape, straight from the definition.
func wanted(seed []byte, n int) []byte {
	seed = seed[:min(len(seed), 65536)]
	out := append([]byte(nil), seed...)
	for i := uint64(0); len(out) < n; i++ {
		sum := sha256.Sum256(binary.BigEndian.AppendUint64(append([]byte(nil), seed...), i))
		out = append(out, sum[:]...)
	}
	return out[:n]
}

// P6.1: the chapter's examples.
func TestExamples(t *testing.T) {
	a := New([]byte{1, 2, 3})
	if !bytes.Equal(a.Draw(2), []byte{1, 2}) || !bytes.Equal(a.Draw(1), []byte{3}) || a.At() != 3 || len(a.Draw(-5)) != 0 || a.At() != 3 {
		t.Error("seed")
	}
	sum := sha256.Sum256(make([]byte, 8))
	if !bytes.Equal(New(nil).Draw(32), sum[:]) {
		t.Error("no seed")
	}
}

// P6.1: limits, nil and zero tapes.
func TestLimits(t *testing.T) {
	a := New(nil)
	if b := a.Draw(1 << 40); len(b) != 65536 || a.At() != 65536 || !bytes.Equal(b, wanted(nil, 65536)) {
		t.Error(len(b), a.At())
	}
	long := filled(65600)
	if !bytes.Equal(New(long).Draw(65536), long[:65536]) {
		t.Error("seed")
	}
	b := New(long)
	b.Draw(65536)
	if !bytes.Equal(b.Draw(40), wanted(long, 65576)[65536:]) {
		t.Error("what follows a long seed")
	}
	var none *Tape
	if none.Draw(3) != nil || none.At() != 0 || none.Copy() != nil {
		t.Error("nil")
	}
	zero := &Tape{}
	if zero.At() != 0 || !bytes.Equal(zero.Draw(50), wanted(nil, 50)) || zero.At() != 50 || !bytes.Equal((&Tape{}).Copy().Draw(9), wanted(nil, 9)) {
		t.Error("zero")
	}
}

// P6.2: the seed is neither changed nor kept; what was drawn is new.
func TestMemory(t *testing.T) {
	seed := filled(10)
	a := New(seed)
	clear(seed)
	b := a.Draw(40)
	if !bytes.Equal(b, wanted(filled(10), 40)) {
		t.Error("kept")
	}
	b = append(b, 1, 2, 3)
	clear(b)
	if !bytes.Equal(a.Draw(40), wanted(filled(10), 80)[40:]) {
		t.Error("shared")
	}
}

// P6.3: parts and copies.
func TestParts(t *testing.T) {
	want := wanted(filled(37), 1000)
	for step := 1; step < 150; step += 3 {
		a := New(filled(37))
		var got []byte
		for len(got) < 1000 {
			got = append(got, a.Draw(min(step, 1000-len(got)))...)
		}
		if !bytes.Equal(got, want) || a.At() != 1000 {
			t.Error(step)
		}
	}
	for n := range 400 {
		a := New(filled(37))
		a.Draw(n)
		c := a.Copy()
		if c.At() != n || !bytes.Equal(c.Draw(200), want[n:n+200]) || a.At() != n {
			t.Error("copy", n)
		}
		if !bytes.Equal(a.Draw(300), want[n:n+300]) || c.At() != n+200 || !bytes.Equal(c.Draw(90), want[n+200:n+290]) {
			t.Error("copy", n)
		}
	}
}
