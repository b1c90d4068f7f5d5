package seal

import (
	"bytes"
	"testing"

	"sealchain/api"
	"sealchain/mode"
	"sealchain/pad"
	"sealchain/tape"
)

var some = api.Name{1, 2, 31: 9}

func modes(t *testing.T) []*mode.Mode {
	t.Helper()
	r, e := mode.Real(make([]byte, 32))
	i, f := mode.Ideal(tape.New([]byte("i")))
	if e != api.OK || f != api.OK {
		t.Fatal(e, f)
	}
	return []*mode.Mode{r, i}
}

func filled(n int) []byte {
	b := make([]byte, n)
	for i := range b {
		b[i] = byte(i + 1)
	}
	return b
}

// P9.1: lengths, and that head and epoch are where they belong.
func TestSeal(t *testing.T) {
	for _, m := range modes(t) {
		source := tape.New(nil)
		for n, want := range map[int]int{0: 45, 5: 45, 13: 45, 14: 93, 61: 93, 62: 285, 250: 285} {
			env, e := Seal(m, source, some, 1, 7, filled(n), false)
			if e != api.OK || len(env) != want || env[0] != 7 {
				t.Error(n, len(env), e)
			}
		}
		env, e := Seal(m, source, some, 258, 255, nil, true)
		if e != api.OK || len(env) != 45 {
			t.Error(len(env), e)
		}
		bound := append(some[:], 0, 0, 0, 0, 0, 0, 1, 2, 255)
		plain, e := m.Open(255, bound, env[1:])
		want, _ := pad.Pad(nil, true)
		if e != api.OK || !bytes.Equal(plain, want) {
			t.Error(plain, e)
		}
	}
}

// P9.1: what can't be sealed; nothing is drawn then.
func TestSealInvalid(t *testing.T) {
	for _, m := range modes(t) {
		source := tape.New(nil)
		for i, c := range []struct {
			m              *mode.Mode
			t              *tape.Tape
			version, epoch int
			value          []byte
			tomb           bool
			want           api.Errno
		}{
			{nil, source, 0, 0, nil, false, api.ErrNil},
			{&mode.Mode{}, source, 0, 0, nil, false, api.ErrNil},
			{m, nil, 0, 0, nil, false, api.ErrNil},
			{m, source, 0, 0, nil, false, api.ErrArg},
			{m, source, -1, 0, nil, false, api.ErrArg},
			{m, source, api.MaxNumber + 1, 0, nil, false, api.ErrArg},
			{m, source, 1, -1, nil, false, api.ErrArg},
			{m, source, 1, 256, filled(251), false, api.ErrArg},
			{m, source, 1, 1, filled(251), false, api.ErrSize},
			{m, source, 1, 1, filled(1), true, api.ErrArg},
			{m, source, 1, 1, filled(251), true, api.ErrArg},
		} {
			if env, e := Seal(c.m, c.t, some, c.version, c.epoch, c.value, c.tomb); env != nil || e != c.want {
				t.Error(i, e)
			}
		}
		if source.At() != 0 || m.Len() != 0 {
			t.Error("something was drawn")
		}
		if _, e := Seal(m, &tape.Tape{}, some, api.MaxNumber, 0, nil, false); e != api.OK {
			t.Error(e)
		}
	}
}

// P9.2: what can't be opened.
func TestOpenInvalid(t *testing.T) {
	for _, m := range modes(t) {
		env, _ := Seal(m, tape.New(nil), some, 3, 7, filled(9), false)
		bound := append(some[:], 0, 0, 0, 0, 0, 0, 0, 3, 7)
		loose, _ := m.Seal(tape.New([]byte("x")), 7, bound, filled(16))
		changed := bytes.Clone(env)
		changed[20]++
		other := bytes.Clone(env)
		other[0] = 8
		for i, c := range []struct {
			m       *mode.Mode
			version int
			env     []byte
			want    api.Errno
		}{
			{nil, 0, nil, api.ErrNil},
			{&mode.Mode{}, 0, nil, api.ErrNil},
			{m, 0, nil, api.ErrArg},
			{m, -1, env, api.ErrArg},
			{m, api.MaxNumber + 1, env, api.ErrArg},
			{m, 3, nil, api.ErrTamper},
			{m, 3, env[:44], api.ErrTamper},
			{m, 3, append(bytes.Clone(env), 0), api.ErrTamper},
			{m, 3, changed, api.ErrTamper},
			{m, 3, other, api.ErrTamper},
			{m, 3, make([]byte, 93), api.ErrTamper},
			{m, 3, append([]byte{7}, loose...), api.ErrTamper},
		} {
			value, tomb, epoch, e := Open(c.m, some, c.version, c.env)
			if value != nil || tomb || epoch != 0 || e != c.want {
				t.Error(i, value, tomb, epoch, e)
			}
		}
	}
}

// P9.3: Epoch and Sized.
func TestEpochSized(t *testing.T) {
	env := make([]byte, 45)
	env[0] = 7
	if n, e := Epoch(env); n != 7 || e != api.OK {
		t.Error(n, e)
	}
	for _, n := range []int{0, 1, 44, 46} {
		if x, e := Epoch(make([]byte, n)); x != 0 || e != api.ErrTamper {
			t.Error(n, x, e)
		}
	}
	for n := -2; n < 400; n++ {
		if Sized(n) != (n == 45 || n == 93 || n == 285) {
			t.Error(n)
		}
	}
}

// P9.4: arguments are neither changed nor kept.
func TestMemory(t *testing.T) {
	for _, m := range modes(t) {
		room := filled(40)
		env, _ := Seal(m, tape.New(nil), some, 1, 0, room[:10], false)
		if !bytes.Equal(room, filled(40)) {
			t.Error("changed")
		}
		clear(room)
		kept := bytes.Clone(env)
		for range 2 {
			value, _, _, e := Open(m, some, 1, env)
			if e != api.OK || !bytes.Equal(value, filled(10)) || !bytes.Equal(env, kept) {
				t.Error(value, e)
			}
			clear(append(value, 1, 2, 3))
			clear(value)
		}
	}
}

// P9.5: with its name and version alone.
func TestRound(t *testing.T) {
	for _, m := range modes(t) {
		source := tape.New(nil)
		for n := range 251 {
			env, _ := Seal(m, source, some, n+1, n, filled(n), false)
			value, tomb, epoch, e := Open(m, some, n+1, env)
			if e != api.OK || tomb || epoch != n || !bytes.Equal(value, filled(n)) {
				t.Fatal(n, tomb, epoch, e)
			}
			if v, _, p, e := Open(m, some, n+2, env); e != api.ErrTamper || v != nil || p != 0 {
				t.Error(n, e)
			}
			if v, _, p, e := Open(m, api.Name{1, 2}, n+1, env); e != api.ErrTamper || v != nil || p != 0 {
				t.Error(n, e)
			}
		}
		env, _ := Seal(m, source, some, api.MaxNumber, 255, nil, true)
		value, tomb, epoch, e := Open(m, some, api.MaxNumber, env)
		if e != api.OK || !tomb || epoch != 255 || len(value) != 0 {
			t.Error(value, tomb, epoch, e)
		}
	}
}

// P9.6: the length tells the class alone.
func TestLength(t *testing.T) {
	for _, m := range modes(t) {
		for n := range 251 {
			env, _ := Seal(m, tape.New(nil), some, 1, 0, make([]byte, n), false)
			if len(env) != pad.Class(n)+29 || !Sized(len(env)) {
				t.Error(n, len(env))
			}
		}
	}
}
