package aes

import (
	"bytes"
	stdaes "crypto/aes"
	"encoding/hex"
	"testing"

	"sealchain/api"
)

func counting(n int) []byte {
	b := make([]byte, n)
	for i := range b {
		b[i] = byte(i)
	}
	return b
}

// P4.1, P4.2: the chapter's examples.
func TestExamples(t *testing.T) {
	var in [16]byte
	for i := range in {
		in[i] = byte(i * 0x11)
	}
	for n, want := range map[int]string{16: "69c4e0d86a7b0430d8cdb78070b4c55a", 32: "8ea2b7ca516745bfeafc49904b496089"} {
		c, e := New(counting(n))
		if e != api.OK {
			t.Fatal(e)
		}
		out := c.Block(in)
		if hex.EncodeToString(out[:]) != want || c.Rounds() != n/4+6 {
			t.Errorf("%d: %x %d", n, out, c.Rounds())
		}
	}
	if Mul(0x57, 0x83) != 0xC1 || Inv(0x53) != 0xCA || Box(0x53) != 0xED || Box(0) != 0x63 || Inv(0) != 0 {
		t.Error("bytes")
	}
}

// P4.2: the same as the standard's, for many keys and blocks.
func TestBlocks(t *testing.T) {
	for i := range 200 {
		key := counting(32)[:16+16*(i%2)]
		for j := range key {
			key[j] = byte(i*31 + j*j*7)
		}
		c, _ := New(key)
		s, _ := stdaes.NewCipher(key)
		in := [16]byte{byte(i), 3: byte(i * 77), 15: byte(i >> 1)}
		want := make([]byte, 16)
		s.Encrypt(want, in[:])
		if got := c.Block(in); !bytes.Equal(got[:], want) {
			t.Errorf("%d: %x", i, got)
		}
	}
}

// P4.1, P4.2: the tables are the functions' answers, built anew and at package level.
func TestTables(t *testing.T) {
	New(counting(16))
	table := allBoxes()
	for i := range 256 {
		a := byte(i)
		if table[a] != Box(a) || boxes[a] != Box(a) || double(a) != Mul(a, 2) || doubles[a] != Mul(a, 2) {
			t.Error(a)
		}
	}
}

// P4.1, P4.2: whatever stands at package level, the answers are the same.
func TestNothingOutside(t *testing.T) {
	begun, _ := New(counting(32))
	keptBoxes, keptDoubles := boxes, doubles
	defer func() { boxes, doubles = keptBoxes, keptDoubles }()
	boxes, doubles = [256]byte{1, 2, 3}, [256]byte{4, 5, 6}
	for _, n := range []int{16, 32} {
		c, e := New(counting(n))
		s, _ := stdaes.NewCipher(counting(n))
		in, want := [16]byte{byte(n), 7: 0x77}, make([]byte, 16)
		s.Encrypt(want, in[:])
		if got := c.Block(in); e != api.OK || !bytes.Equal(got[:], want) {
			t.Errorf("%d: %v %x", n, e, got)
		}
		if n == 32 && begun.Block(in) != c.Block(in) {
			t.Error("begun before")
		}
	}
	if Mul(0x57, 0x83) != 0xC1 || Inv(0x53) != 0xCA || Box(0x53) != 0xED || Box(0) != 0x63 {
		t.Error("bytes")
	}
}

// P4.2: other sizes of keys, nil and zero ciphers.
func TestInvalid(t *testing.T) {
	for _, n := range []int{0, 1, 15, 17, 24, 31, 33, 64} {
		if c, e := New(counting(n)); c != nil || e != api.ErrArg {
			t.Error(n, c, e)
		}
	}
	in := [16]byte{1, 2, 3}
	if c := (*Cipher)(nil); c.Block(in) != in || c.Rounds() != 0 {
		t.Error("nil")
	}
	if c := (&Cipher{}); c.Block(in) != in || c.Rounds() != 0 {
		t.Error("zero")
	}
}

// P4.3: the key is neither changed nor kept.
func TestMemory(t *testing.T) {
	key := counting(32)
	c, _ := New(key)
	if !bytes.Equal(key, counting(32)) {
		t.Error("changed")
	}
	before := c.Block([16]byte{})
	clear(key)
	if c.Block([16]byte{}) != before {
		t.Error("kept")
	}
}

// P4.4: a field, and a permutation.
func TestField(t *testing.T) {
	seen := map[byte]bool{}
	for i := range 256 {
		a := byte(i)
		seen[Box(a)] = true
		if a != 0 && Mul(a, Inv(a)) != 1 || Mul(a, 1) != a || Mul(a, 0) != 0 {
			t.Error(a)
		}
		for j := range 256 {
			b := byte(j)
			if Mul(a, b) != Mul(b, a) || a != 0 && b != 0 && Mul(a, b) == 0 {
				t.Error(a, b)
			}
			for _, c := range []byte{0, 1, 2, 3, 0x53, 0x80, 0xFF} {
				if Mul(a, b^c) != Mul(a, b)^Mul(a, c) || Mul(Mul(a, b), c) != Mul(a, Mul(b, c)) {
					t.Error(a, b, c)
				}
			}
		}
	}
	if len(seen) != 256 {
		t.Error(len(seen))
	}
}

// P4.5: different blocks stay different.
func TestDifferent(t *testing.T) {
	c, _ := New(counting(16))
	seen := map[[16]byte]bool{}
	for i := range 1 << 12 {
		seen[c.Block([16]byte{byte(i), 9: byte(i >> 8)})] = true
	}
	if len(seen) != 1<<12 {
		t.Error(len(seen))
	}
}
