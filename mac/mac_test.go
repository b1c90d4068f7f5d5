package mac

import (
	"bytes"
	"crypto/hmac"
	"crypto/sha256"
	"encoding/hex"
	"testing"

	"sealchain/api"
)

func filled(n int) []byte {
	b := make([]byte, n)
	for i := range b {
		b[i] = byte(i*5 + 1)
	}
	return b
}

func standard(key, b []byte) [32]byte {
	h := hmac.New(sha256.New, key)
	h.Write(b)
	return [32]byte(h.Sum(nil))
}

// P3.1: the chapter's examples, and the standard's for all sizes of keys.
func TestMac(t *testing.T) {
	cases := []struct {
		key, b []byte
		want   string
	}{
		{bytes.Repeat([]byte{0x0b}, 20), []byte("Hi There"), "b0344c61d8db38535ca8afceaf0bf12b881dc200c9833da726e9376c2e32cff7"},
		{[]byte("Jefe"), []byte("what do ya want for nothing?"), "5bdcc146bf60754e6a042426089575c75a003f089d2739839dec58b964ec3843"},
	}
	for _, c := range cases {
		m := Mac(c.key, c.b)
		if hex.EncodeToString(m[:]) != c.want {
			t.Errorf("%q: %x", c.key, m)
		}
	}
	for n := range 140 {
		if Mac(filled(n), filled(2*n)) != standard(filled(n), filled(2*n)) {
			t.Error(n)
		}
	}
	if Mac(nil, nil) != standard(nil, nil) {
		t.Error("nothing")
	}
}

// P3.1: Same.
func TestSame(t *testing.T) {
	a := Mac(nil, nil)
	if !Same(a, a) || !Same([32]byte{}, [32]byte{}) {
		t.Error("the same are different")
	}
	for i := range a {
		for bit := range 8 {
			b := a
			b[i] ^= 1 << bit
			if Same(a, b) {
				t.Error(i, bit)
			}
		}
	}
	if Same([32]byte{0: 1, 1: 1}, [32]byte{}) {
		t.Error("two differences")
	}
}

// P3.2: Derive.
func TestDerive(t *testing.T) {
	key := filled(32)
	want := standard(key, []byte("epoch\x00\x00\x00\x00\x00\x00\x00\x01\x02"))
	if k, e := Derive(key, "epoch", 258); e != api.OK || k != [16]byte(want[:16]) {
		t.Error(k, e)
	}
	want = standard(nil, []byte("\x00\x00\x1f\xff\xff\xff\xff\xff\xff"))
	if k, e := Derive(nil, "", api.MaxNumber); e != api.OK || k != [16]byte(want[:16]) {
		t.Error(k, e)
	}
	if _, e := Derive(key, "x", 0); e != api.OK {
		t.Error(e)
	}
	for _, c := range []struct {
		label string
		n     int
	}{{"a\x00", 1}, {"\x00", 1}, {"a\x00b", 1}, {"a", -1}, {"a", api.MaxNumber + 1}} {
		if k, e := Derive(key, c.label, c.n); e != api.ErrArg || k != [16]byte{} {
			t.Error(c, k, e)
		}
	}
}

// P3.3: arguments are only read.
func TestMemory(t *testing.T) {
	for _, n := range []int{3, 64, 65} {
		key, b := filled(n + 10)[:n], filled(9)
		Mac(key, b)
		Derive(key, "x", 1)
		if !bytes.Equal(key[:n+10], filled(n+10)) || !bytes.Equal(b, filled(9)) {
			t.Error(n)
		}
	}
}

// P3.4: padded keys, and long ones.
func TestKeys(t *testing.T) {
	b := []byte("message")
	for n := range 65 {
		padded := append(filled(n), make([]byte, 64-n)...)
		if Mac(filled(n), b) != Mac(padded, b) {
			t.Error(n)
		}
	}
	for _, n := range []int{65, 66, 100, 1000} {
		sum := sha256.Sum256(filled(n))
		if Mac(filled(n), b) != Mac(sum[:], b) {
			t.Error(n)
		}
	}
	if Mac(filled(64), b) == Mac(filled(65), b) {
		t.Error("64 and 65")
	}
}

// P3.5: no two pairs have the same message, and so the same key.
func TestPairs(t *testing.T) {
	seen := map[[16]byte]bool{}
	for _, label := range []string{"", "a", "b", "ab", "epoch", "a\x01"} {
		for _, n := range []int{0, 1, 255, 256, 1 << 32, api.MaxNumber} {
			k, _ := Derive([]byte("k"), label, n)
			if seen[k] {
				t.Error(label, n)
			}
			seen[k] = true
		}
	}
}
