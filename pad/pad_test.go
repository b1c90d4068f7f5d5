package pad

import (
	"bytes"
	"testing"

	"sealchain/api"
)

func filled(n int) []byte {
	b := make([]byte, n)
	for i := range b {
		b[i] = byte(i + 1)
	}
	return b
}

// P7.1: classes.
func TestClass(t *testing.T) {
	for n, want := range map[int]int{0: 16, 13: 16, 14: 64, 61: 64, 62: 256, 250: 256, 251: 0, 253: 0, 1 << 40: 0, -1: 0, -1 << 62: 0} {
		if Class(n) != want {
			t.Error(n, Class(n))
		}
	}
}

// P7.1: padding.
func TestPad(t *testing.T) {
	b, e := Pad([]byte{0xAB, 0xCD}, false)
	if e != api.OK || !bytes.Equal(b, append([]byte{0, 0, 2, 0xAB, 0xCD}, make([]byte, 11)...)) {
		t.Error(b, e)
	}
	b, e = Pad(filled(250), false)
	if e != api.OK || len(b) != 256 || !bytes.Equal(b[:3], []byte{0, 0, 250}) || !bytes.Equal(b[3:253], filled(250)) {
		t.Error(b, e)
	}
	b, e = Pad(nil, true)
	if e != api.OK || !bytes.Equal(b, append([]byte{1}, make([]byte, 15)...)) {
		t.Error(b, e)
	}
	if b, e = Pad([]byte{1}, true); b != nil || e != api.ErrArg {
		t.Error(b, e)
	}
	if b, e = Pad(filled(251), true); b != nil || e != api.ErrArg {
		t.Error(b, e)
	}
	if b, e = Pad(filled(251), false); b != nil || e != api.ErrSize {
		t.Error(b, e)
	}
}

// P7.2: what can't be opened.
func TestOpenInvalid(t *testing.T) {
	at := func(n int, set map[int]byte) []byte {
		b := make([]byte, n)
		for i, x := range set {
			b[i] = x
		}
		return b
	}
	cases := [][]byte{
		nil, {0}, {0, 0}, {0, 0, 0}, {1, 0, 0},
		at(15, nil), at(17, nil), at(64, nil), at(256, nil),
		at(16, map[int]byte{0: 2}),
		at(16, map[int]byte{2: 14}),
		at(16, map[int]byte{1: 1}),
		at(16, map[int]byte{2: 2, 5: 1}),
		at(16, map[int]byte{15: 1}),
		at(16, map[int]byte{0: 1, 1: 1}),
		at(16, map[int]byte{0: 1, 2: 1}),
		at(16, map[int]byte{0: 1, 15: 1}),
		at(64, map[int]byte{0: 1}),
		at(64, map[int]byte{0: 1, 2: 20}),
		at(64, map[int]byte{2: 13}),
		at(256, map[int]byte{2: 251}),
		at(256, map[int]byte{2: 255}),
		at(256, map[int]byte{1: 255, 2: 255}),
		at(256, map[int]byte{2: 250, 255: 1}),
	}
	for i, b := range cases {
		if value, tomb, e := Open(b); value != nil || tomb || e != api.ErrForm {
			t.Error(i, value, tomb, e)
		}
	}
}

// P7.3: arguments are only read, and results are new memory.
func TestMemory(t *testing.T) {
	room := filled(300)
	b, _ := Pad(room[:250], false)
	if !bytes.Equal(room, filled(300)) {
		t.Error("Pad changed its argument")
	}
	value, _, _ := Open(b)
	value = append(value, 7, 7, 7, 7)
	clear(value)
	if again, _, e := Open(b); e != api.OK || !bytes.Equal(again, filled(250)) {
		t.Error("Open shares memory")
	}
}

// P7.4: what was padded is opened, and a class has one length.
func TestRound(t *testing.T) {
	for n := range 251 {
		b, e := Pad(filled(n), false)
		if e != api.OK || len(b) != Class(n) {
			t.Fatal(n, e)
		}
		value, tomb, e := Open(b)
		if e != api.OK || tomb || !bytes.Equal(value, filled(n)) {
			t.Error(n, value, tomb, e)
		}
	}
	b, _ := Pad(nil, true)
	if value, tomb, e := Open(b); len(value) != 0 || !tomb || e != api.OK || len(b) != Class(0) {
		t.Error(value, tomb, e)
	}
	// What can be opened is what is padded: no other bytes of 16.
	for i := range 16 {
		for x := range 256 {
			for _, kind := range []byte{0, 1} {
				b := make([]byte, 16)
				b[0] = kind
				b[i] = byte(x)
				value, tomb, e := Open(b)
				if e != api.OK {
					continue
				}
				if again, _ := Pad(value, tomb); !bytes.Equal(again, b) {
					t.Errorf("%x", b)
				}
			}
		}
	}
}
