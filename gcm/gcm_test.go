package gcm

import (
	"bytes"
	stdaes "crypto/aes"
	"crypto/cipher"
	"encoding/hex"
	"slices"
	"testing"

	"sealchain/aes"
	"sealchain/api"
)

func filled(n int) []byte {
	b := make([]byte, n)
	for i := range b {
		b[i] = byte(i*11 + i>>7 + 3)
	}
	return b
}

func made(t *testing.T, key []byte) *aes.Cipher {
	t.Helper()
	c, e := aes.New(key)
	if e != api.OK {
		t.Fatal(e)
	}
	return c
}

// P5.1: the chapter's examples.
func TestExamples(t *testing.T) {
	c := made(t, make([]byte, 16))
	for n, want := range map[int]string{
		0:  "58e2fccefa7e3061367f1d57a4e7455a",
		16: "0388dace60b6a392f328c2b971b2fe78ab6e47d42cec13bdf53a67b21257bddf",
	} {
		box, e := Seal(c, [12]byte{}, make([]byte, n), nil)
		if e != api.OK || hex.EncodeToString(box) != want {
			t.Errorf("%d: %x %d", n, box, e)
		}
		plain, e := Open(c, [12]byte{}, box, nil)
		if e != api.OK || !bytes.Equal(plain, make([]byte, n)) {
			t.Error(n, plain, e)
		}
	}
}

// P5.1, P5.2, P5.4: the same as the standard's, for many lengths.
func TestStandard(t *testing.T) {
	for _, size := range []int{16, 32} {
		key := filled(size)
		c := made(t, key)
		b, _ := stdaes.NewCipher(key)
		s, _ := cipher.NewGCM(b)
		nonce := [12]byte(filled(12))
		for n := range 70 {
			for _, m := range []int{0, 1, 15, 16, 17, 41} {
				box, e := Seal(c, nonce, filled(n), filled(m))
				if e != api.OK || len(box) != n+16 || !bytes.Equal(box, s.Seal(nil, nonce[:], filled(n), filled(m))) {
					t.Fatal(size, n, m, e)
				}
				plain, e := Open(c, nonce, box, filled(m))
				if e != api.OK || !bytes.Equal(plain, filled(n)) {
					t.Fatal(size, n, m, e)
				}
			}
		}
	}
}

// P5.1, P5.2: ciphers and lengths that may not be.
func TestInvalid(t *testing.T) {
	c := made(t, filled(16))
	long := make([]byte, 65537)
	for _, none := range []*aes.Cipher{nil, {}} {
		if b, e := Seal(none, [12]byte{}, long, nil); b != nil || e != api.ErrNil {
			t.Error(e)
		}
		if b, e := Open(none, [12]byte{}, nil, nil); b != nil || e != api.ErrNil {
			t.Error(e)
		}
	}
	if b, e := Seal(c, [12]byte{}, long, nil); b != nil || e != api.ErrLimit {
		t.Error(e)
	}
	if b, e := Seal(c, [12]byte{}, nil, long); b != nil || e != api.ErrLimit {
		t.Error(e)
	}
	box, e := Seal(c, [12]byte{}, long[1:], long[1:])
	if e != api.OK || len(box) != 65552 {
		t.Error(e)
	}
	if b, e := Open(c, [12]byte{}, box, long[1:]); e != api.OK || len(b) != 65536 {
		t.Error(e)
	}
	if b, e := Open(c, [12]byte{}, append(box, 0), nil); b != nil || e != api.ErrLimit {
		t.Error(e)
	}
	if b, e := Open(c, [12]byte{}, nil, long); b != nil || e != api.ErrLimit {
		t.Error(e)
	}
	for n := range 17 {
		if b, e := Open(c, [12]byte{}, make([]byte, n), nil); b != nil || e != api.ErrTamper {
			t.Error(n, e)
		}
	}
}

// P5.3: arguments are only read, and results are new memory.
func TestMemory(t *testing.T) {
	c := made(t, filled(16))
	plain, head := filled(40)[:20], filled(40)[:7]
	box, _ := Seal(c, [12]byte{}, plain, head)
	if !bytes.Equal(plain[:40], filled(40)) || !bytes.Equal(head[:40], filled(40)) {
		t.Error("Seal changed an argument")
	}
	room := append(slices.Clone(box), filled(40)...)
	got, e := Open(c, [12]byte{}, room[:len(box)], head)
	got = append(got, 1, 2, 3)
	got[0]++
	if e != api.OK || !bytes.Equal(room, append(slices.Clone(box), filled(40)...)) {
		t.Error("Open changed an argument")
	}
}

// P5.5: any flipped bit is noticed.
func TestTamper(t *testing.T) {
	c := made(t, filled(32))
	nonce := [12]byte(filled(12))
	head := filled(20)
	box, _ := Seal(c, nonce, filled(37), head)
	for i := range 8 * len(box) {
		bad := slices.Clone(box)
		bad[i/8] ^= 1 << (i % 8)
		if b, e := Open(c, nonce, bad, head); b != nil || e != api.ErrTamper {
			t.Error("box", i, e)
		}
	}
	for i := range 8 * len(head) {
		bad := slices.Clone(head)
		bad[i/8] ^= 1 << (i % 8)
		if b, e := Open(c, nonce, box, bad); b != nil || e != api.ErrTamper {
			t.Error("head", i, e)
		}
	}
	for i := range 8 * len(nonce) {
		bad := nonce
		bad[i/8] ^= 1 << (i % 8)
		if b, e := Open(c, bad, box, head); b != nil || e != api.ErrTamper {
			t.Error("nonce", i, e)
		}
	}
	if b, e := Open(c, nonce, box, append(slices.Clone(head), 0)); b != nil || e != api.ErrTamper {
		t.Error("longer head", e)
	}
}

// P5.6: products.
func TestTimes(t *testing.T) {
	one := [16]byte{0x80}
	xor := func(a, b [16]byte) [16]byte {
		for i := range a {
			a[i] ^= b[i]
		}
		return a
	}
	for i := range 50 {
		a, b, c := [16]byte(filled(100 + i)[i:]), [16]byte(filled(99)[3+i/2:]), [16]byte{15: byte(i), 3: 7}
		if Times(a, one) != a || Times(one, a) != a || Times(a, [16]byte{}) != [16]byte{} {
			t.Error("identity", i)
		}
		if Times(a, b) != Times(b, a) || Times(a, xor(b, c)) != xor(Times(a, b), Times(a, c)) || Times(Times(a, b), c) != Times(a, Times(b, c)) {
			t.Error("ring", i)
		}
	}
	if Times([16]byte{15: 1}, [16]byte{0x40}) != [16]byte{0xE1} {
		t.Error("x^128")
	}
}
