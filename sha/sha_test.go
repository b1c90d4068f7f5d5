package sha

import (
	"bytes"
	"crypto/sha256"
	"encoding/hex"
	"testing"
)

func filled(n int) []byte {
	b := make([]byte, n)
	for i := range b {
		b[i] = byte(i*7 + i>>8)
	}
	return b
}

// P2.1: the chapter's examples.
func TestExamples(t *testing.T) {
	cases := map[string]string{
		"":    "e3b0c44298fc1c149afbf4c8996fb92427ae41e4649b934ca495991b7852b855",
		"abc": "ba7816bf8f01cfea414140de5dae2223b00361a396177a9cb410ff61f20015ad",
		"abcdbcdecdefdefgefghfghighijhijkijkljklmklmnlmnomnopnopq": "248d6a61d20638b8e5c026930c3e6039a33ce45964ff2167f6ecedd419db06c1",
	}
	for in, want := range cases {
		s := Sum([]byte(in))
		if hex.EncodeToString(s[:]) != want {
			t.Errorf("%q: %x", in, s)
		}
	}
}

// P2.1: all lengths around the blocks' ends.
func TestLengths(t *testing.T) {
	for n := range 300 {
		b := filled(n)
		if Sum(b) != sha256.Sum256(b) {
			t.Error(n)
		}
	}
	b := filled(100000)
	if Sum(b) != sha256.Sum256(b) {
		t.Error("long")
	}
}

// P2.1: the constants are those of the roots, found anew and at package level.
func TestConstants(t *testing.T) {
	r := findRoots()
	if r.squares[0] != 0x6a09e667 || r.squares[7] != 0x5be0cd19 || r.cubes[0] != 0x428a2f98 || r.cubes[63] != 0xc67178f2 {
		t.Errorf("%x", r)
	}
	New()
	if cubes != r.cubes || squares != r.squares {
		t.Errorf("%x %x", cubes, squares)
	}
}

// P2.1, P2.2: whatever stands at package level, the digests are the same.
func TestNothingOutside(t *testing.T) {
	New()
	keptCubes, keptSquares := cubes, squares
	defer func() { cubes, squares = keptCubes, keptSquares }()
	half := New().Write(filled(100))
	cubes, squares = [64]uint32{1, 2, 3}, [8]uint32{4, 5, 6}
	for n := range 200 {
		b := filled(n)
		zero := &Hash{}
		if want := sha256.Sum256(b); Sum(b) != want || zero.Write(b).Sum() != want {
			t.Error(n)
		}
	}
	if half.Write(filled(150)[100:]).Sum() != sha256.Sum256(filled(150)) || half.Copy().Len() != 150 {
		t.Error("begun before")
	}
}

// P2.2: parts, sums in between, nil and zero hashes.
func TestHash(t *testing.T) {
	h := New()
	for n := range 200 {
		if h.Len() != n || h.Sum() != Sum(filled(n)) || h.Sum() != Sum(filled(n)) {
			t.Fatal(n, h.Len())
		}
		if h.Write(filled(n + 1)[n:]) != h {
			t.Fatal("another hash")
		}
	}
	var none *Hash
	if none.Write([]byte{1}) != nil || none.Copy() != nil || none.Sum() != New().Sum() || none.Len() != 0 {
		t.Error("nil")
	}
	zero := &Hash{}
	if zero.Len() != 0 || zero.Sum() != Sum(nil) || zero.Write([]byte("abc")).Sum() != Sum([]byte("abc")) {
		t.Error("zero")
	}
	if New().Write(nil).Len() != 0 {
		t.Error("nothing written")
	}
}

// P2.3: arguments are neither changed nor kept.
func TestMemory(t *testing.T) {
	b := filled(100)
	h := New().Write(b)
	if !bytes.Equal(b, filled(100)) {
		t.Error("changed")
	}
	clear(b)
	if h.Sum() != Sum(filled(100)) {
		t.Error("kept")
	}
}

// P2.4: the digest does not depend on the parts, nor on what is written to a copy.
func TestParts(t *testing.T) {
	b := filled(500)
	want := Sum(b)
	for step := 1; step < 200; step += 7 {
		h := New()
		for at := 0; at < len(b); at += step {
			h.Write(b[at:min(at+step, len(b))])
		}
		if h.Sum() != want {
			t.Error(step)
		}
	}
	for n := range 130 {
		h := New().Write(b[:n])
		c := h.Copy()
		c.Write(b[:50])
		if c.Len() != n+50 || h.Len() != n || h.Sum() != Sum(b[:n]) {
			t.Error("copy", n)
		}
		h.Write(b[n:])
		if h.Sum() != want || c.Sum() != Sum(append(filled(500)[:n:n], b[:50]...)) {
			t.Error("copy", n)
		}
	}
}
