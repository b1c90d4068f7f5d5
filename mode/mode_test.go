package mode

import (
	"bytes"
	"testing"

	"sealchain/aes"
	"sealchain/api"
	"sealchain/gcm"
	"sealchain/mac"
	"sealchain/tape"
)

func filled(n int) []byte {
	b := make([]byte, n)
	for i := range b {
		b[i] = byte(i + 1)
	}
	return b
}

func realMode(t *testing.T) *Mode {
	t.Helper()
	m, e := Real(filled(32))
	if e != api.OK || m == nil {
		t.Fatal(e)
	}
	return m
}

func idealMode(t *testing.T, seed []byte) *Mode {
	t.Helper()
	m, e := Ideal(tape.New(seed))
	if e != api.OK || m == nil {
		t.Fatal(e)
	}
	return m
}

// P8.1: which modes there are.
func TestNew(t *testing.T) {
	for _, n := range []int{0, 31, 33, 64} {
		if m, e := Real(make([]byte, n)); m != nil || e != api.ErrArg {
			t.Error(n, e)
		}
	}
	if m, e := Ideal(nil); m != nil || e != api.ErrNil {
		t.Error(e)
	}
	if m, e := Ideal(&tape.Tape{}); m == nil || e != api.OK {
		t.Error(e)
	}
	if !realMode(t).IsReal() || idealMode(t, nil).IsReal() {
		t.Error("IsReal")
	}
	own := tape.New(filled(64))
	own.Draw(3)
	m, _ := Ideal(own)
	name, _ := m.Name([]byte("a"))
	if own.At() != 3 || !bytes.Equal(name[:], filled(64)[3:35]) {
		t.Error("the tape is not copied", own.At())
	}
}

// Nil and zero modes.
func TestNone(t *testing.T) {
	for _, m := range []*Mode{nil, {}} {
		if m.IsReal() || m.Len() != 0 {
			t.Error("is something")
		}
		if n, e := m.Name(nil); n != (api.Name{}) || e != api.ErrNil {
			t.Error(e)
		}
		if b, e := m.Seal(nil, -1, nil, nil); b != nil || e != api.ErrNil {
			t.Error(e)
		}
		if b, e := m.Open(-1, nil, nil); b != nil || e != api.ErrNil {
			t.Error(e)
		}
	}
}

// P8.2: the real mode, from its definition.
func TestReal(t *testing.T) {
	m := realMode(t)
	names := mac.Mac(filled(32), []byte("name"))
	if n, e := m.Name([]byte("key")); e != api.OK || n != api.Name(mac.Mac(names[:], []byte("key"))) {
		t.Error(n, e)
	}
	box, e := m.Seal(tape.New(filled(64)), 7, []byte("head"), []byte("plain"))
	key, _ := mac.Derive(filled(32), "epoch", 7)
	c, _ := aes.New(key[:])
	want, _ := gcm.Seal(c, [12]byte(filled(12)), []byte("plain"), []byte("head"))
	if e != api.OK || !bytes.Equal(box, append(filled(12), want...)) {
		t.Error(box, e)
	}
}

// P8.2: the chapter's examples of an ideal mode.
func TestIdeal(t *testing.T) {
	m := idealMode(t, filled(64))
	for _, c := range []struct {
		key  string
		want []byte
	}{{"a", filled(64)[:32]}, {"b", filled(64)[32:]}, {"a", filled(64)[:32]}} {
		if n, e := m.Name([]byte(c.key)); e != api.OK || !bytes.Equal(n[:], c.want) {
			t.Error(c.key, n, e)
		}
	}
	aa := bytes.Repeat([]byte{0xAA}, 40)
	box, e := m.Seal(tape.New(aa), 3, []byte("h"), filled(12))
	if e != api.OK || !bytes.Equal(box, aa) {
		t.Error(box, e)
	}
	if b, e := m.Open(3, []byte("h"), box); e != api.OK || !bytes.Equal(b, filled(12)) {
		t.Error(b, e)
	}
	if b, e := m.Open(4, []byte("h"), box); e != api.ErrTamper || b != nil {
		t.Error(b, e)
	}
	if m.Len() != 1 {
		t.Error(m.Len())
	}
}

// P8.2: arguments that may not be, and their order; nothing is drawn then.
func TestInvalid(t *testing.T) {
	long := make([]byte, 4097)
	for _, m := range []*Mode{realMode(t), idealMode(t, filled(9))} {
		source := tape.New(nil)
		for i, c := range []struct {
			t           *tape.Tape
			epoch       int
			head, plain []byte
			want        api.Errno
		}{
			{nil, -1, long, long, api.ErrNil},
			{source, -1, long, long, api.ErrArg},
			{source, 256, nil, nil, api.ErrArg},
			{source, 0, long, nil, api.ErrLimit},
			{source, 255, nil, long, api.ErrLimit},
		} {
			if b, e := m.Seal(c.t, c.epoch, c.head, c.plain); b != nil || e != c.want {
				t.Error(i, e)
			}
		}
		if source.At() != 0 || m.Len() != 0 {
			t.Error("something was drawn")
		}
		for i, c := range []struct {
			epoch     int
			head, box []byte
			want      api.Errno
		}{
			{-1, long, nil, api.ErrArg},
			{256, nil, nil, api.ErrArg},
			{0, long, nil, api.ErrLimit},
			{0, nil, make([]byte, 4125), api.ErrLimit},
			{0, nil, make([]byte, 4124), api.ErrTamper},
			{0, nil, make([]byte, 27), api.ErrTamper},
			{0, nil, nil, api.ErrTamper},
			{255, nil, make([]byte, 28), api.ErrTamper},
		} {
			if b, e := m.Open(c.epoch, c.head, c.box); b != nil || e != c.want {
				t.Error(i, e)
			}
		}
		box, e := m.Seal(source, 255, long[1:], long[1:])
		if e != api.OK || len(box) != 4124 {
			t.Error(e)
		}
		if b, e := m.Open(255, long[1:], box); e != api.OK || len(b) != 4096 {
			t.Error(e)
		}
	}
}

// P8.3: the same box counts once, and the last plaintext holds.
func TestLen(t *testing.T) {
	m := idealMode(t, nil)
	again := func(epoch int, head, plain string) []byte {
		b, _ := m.Seal(tape.New(make([]byte, 100)), epoch, []byte(head), []byte(plain))
		return b
	}
	again(1, "h", "one")
	box := again(1, "h", "two")
	if m.Len() != 1 {
		t.Error(m.Len())
	}
	if b, _ := m.Open(1, []byte("h"), box); string(b) != "two" {
		t.Error(b)
	}
	again(2, "h", "two")
	again(1, "i", "two")
	again(1, "h", "more")
	if m.Len() != 4 || realMode(t).Len() != 0 {
		t.Error(m.Len())
	}
	r := realMode(t)
	r.Seal(tape.New(nil), 1, nil, nil)
	if r.Len() != 0 {
		t.Error(r.Len())
	}
}

// P8.4: arguments are neither changed nor kept.
func TestMemory(t *testing.T) {
	root := filled(32)
	r, _ := Real(root)
	before, _ := r.Name([]byte("k"))
	clear(root)
	if after, _ := r.Name([]byte("k")); after != before {
		t.Error("the root is kept")
	}
	for _, m := range []*Mode{r, idealMode(t, nil)} {
		head, plain := filled(20), filled(30)
		box, _ := m.Seal(tape.New(nil), 1, head[:5], plain[:10])
		if !bytes.Equal(head, filled(20)) || !bytes.Equal(plain, filled(30)) {
			t.Error("Seal changed an argument")
		}
		clear(plain)
		clear(head)
		kept := bytes.Clone(box)
		for range 2 {
			b, e := m.Open(1, filled(5), kept)
			if e != api.OK || !bytes.Equal(b, filled(10)) {
				t.Error(b, e)
			}
			clear(b)
		}
		clear(box)
		if _, e := m.Open(1, filled(5), kept); e != api.OK {
			t.Error(e)
		}
	}
}

// P8.5: what was sealed is opened, in its epoch and with its head alone.
func TestRound(t *testing.T) {
	for _, m := range []*Mode{realMode(t), idealMode(t, nil)} {
		source := tape.New([]byte("s"))
		for n := range 60 {
			box, _ := m.Seal(source, n, filled(n), filled(2*n))
			if len(box) != 2*n+28 {
				t.Error(n, len(box))
			}
			if b, e := m.Open(n, filled(n), box); e != api.OK || !bytes.Equal(b, filled(2*n)) {
				t.Error(n, b, e)
			}
			if b, e := m.Open(n+1, filled(n), box); e != api.ErrTamper || b != nil {
				t.Error(n, b, e)
			}
			if b, e := m.Open(n, filled(n+1), box); e != api.ErrTamper || b != nil {
				t.Error(n, b, e)
			}
			box[n%28]++
			if b, e := m.Open(n, filled(n), box); e != api.ErrTamper || b != nil {
				t.Error(n, b, e)
			}
		}
	}
}

// P8.6, P8.7: in an ideal mode only lengths count, and nothing else is opened.
func TestBlind(t *testing.T) {
	run := func(key, other, plain string, epoch int) []byte {
		m := idealMode(t, []byte("seed"))
		source := tape.New([]byte("s"))
		var out []byte
		for _, k := range []string{key, other, key} {
			n, _ := m.Name([]byte(k))
			box, _ := m.Seal(source, epoch, []byte(k), []byte(plain))
			out = append(append(out, n[:]...), box...)
		}
		return out
	}
	if !bytes.Equal(run("a", "b", "xyz", 1), run("key", "b2", "123", 9)) {
		t.Error("something shows")
	}
	m, other := idealMode(t, nil), idealMode(t, nil)
	box, _ := other.Seal(tape.New(nil), 1, nil, []byte("x"))
	if b, e := m.Open(1, nil, box); b != nil || e != api.ErrTamper {
		t.Error(b, e)
	}
}
