package disk

import (
	"bytes"
	"testing"

	"sealchain/api"
)

// same tells whether a disk's trace is this.
func same(d *Disk, want ...[]byte) bool {
	trace := d.Trace()
	if len(trace) != len(want) {
		return false
	}
	for i, b := range want {
		if !bytes.Equal(trace[i], b) {
			return false
		}
	}
	return true
}

func expect(t *testing.T, got ...api.Errno) {
	t.Helper()
	for i := 0; i < len(got); i += 2 {
		if got[i] != got[i+1] {
			t.Errorf("call %d: %d, not %d", i/2, got[i], got[i+1])
		}
	}
}

// The chapter's examples.
func TestExamples(t *testing.T) {
	d := New()
	expect(t, d.Write([]byte{1, 2}), api.OK, d.Sync(), api.OK, d.Write([]byte{3, 4}), api.OK)
	if d.Synced() != 2 {
		t.Error(d.Synced())
	}
	expect(t, d.Crash(1), api.OK)
	if !bytes.Equal(d.Read(), []byte{1, 2, 3}) {
		t.Error(d.Read())
	}
	expect(t, d.Write([]byte{5}), api.ErrDead, d.Revive(), api.OK)
	if d.Synced() != 3 {
		t.Error(d.Synced())
	}
	expect(t, d.Swap([]byte{9}), api.OK, d.Arm(0), api.OK, d.Write([]byte{8}), api.OK, d.Sync(), api.ErrDead)
	if !bytes.Equal(d.Read(), []byte{9}) || !same(d, []byte{1, 2}, []byte{3, 4}, []byte{9}, []byte{8}) {
		t.Error(d.Read(), d.Trace())
	}
}

// Nil and zero disks.
func TestNone(t *testing.T) {
	for _, d := range []*Disk{nil, {}} {
		expect(t, d.Write(nil), api.ErrNil, d.Sync(), api.ErrNil, d.Swap(nil), api.ErrNil, d.Cut(-1), api.ErrNil,
			d.Arm(-1), api.ErrNil, d.Crash(-1), api.ErrNil, d.Revive(), api.ErrNil)
		if d.Read() != nil || d.Synced() != 0 || d.Dead() || d.Trace() != nil {
			t.Error("is something")
		}
	}
}

// P13.1: writing, and its limit.
func TestWrite(t *testing.T) {
	d := New()
	if d.Dead() || len(d.Read()) != 0 || len(d.Trace()) != 0 || d.Synced() != 0 {
		t.Error("new")
	}
	big := make([]byte, 1<<20)
	expect(t, d.Write(big[1:]), api.OK, d.Write([]byte{1, 2}), api.ErrLimit, d.Write([]byte{1}), api.OK, d.Write([]byte{1}), api.ErrLimit, d.Write(nil), api.OK)
	if len(d.Read()) != 1<<20 || d.Synced() != 0 || !same(d, big[1:], []byte{1}, nil) {
		t.Error(len(d.Read()), len(d.Trace()))
	}
	d.Crash(0)
	expect(t, d.Write(big), api.ErrDead)
	d.Revive()
	expect(t, d.Swap(big), api.OK, d.Cut(0), api.OK)
	if len(d.Read()) != 0 || d.Synced() != 0 {
		t.Error("Cut to nothing")
	}
}

// P13.2: Sync, Swap and Cut.
func TestSync(t *testing.T) {
	d := New()
	d.Write([]byte{1, 2, 3})
	expect(t, d.Swap(make([]byte, 1<<20+1)), api.ErrLimit, d.Cut(-1), api.ErrRange, d.Cut(4), api.ErrRange)
	if d.Synced() != 0 || len(d.Read()) != 3 {
		t.Error("an error changed something")
	}
	expect(t, d.Cut(3), api.OK, d.Cut(2), api.OK)
	if d.Synced() != 2 || !bytes.Equal(d.Read(), []byte{1, 2}) {
		t.Error("Cut", d.Read())
	}
	d.Write([]byte{4, 5})
	expect(t, d.Swap([]byte{7}), api.OK)
	if d.Synced() != 1 || !bytes.Equal(d.Read(), []byte{7}) || !same(d, []byte{1, 2, 3}, []byte{4, 5}, []byte{7}) {
		t.Error("Swap", d.Read(), d.Trace())
	}
	d.Write([]byte{8, 9})
	expect(t, d.Arm(1), api.OK, d.Cut(3), api.OK)
	d.Write([]byte{10, 11})
	expect(t, d.Swap(make([]byte, 1<<20+1)), api.ErrLimit, d.Swap([]byte{1}), api.ErrDead)
	if !d.Dead() || !bytes.Equal(d.Read(), []byte{7, 8, 9, 10}) || d.Synced() != 4 {
		t.Error("armed", d.Read(), d.Synced())
	}
	expect(t, d.Sync(), api.ErrDead, d.Swap(make([]byte, 1<<20+1)), api.ErrDead, d.Cut(-1), api.ErrDead, d.Arm(-1), api.ErrDead)
}

// P13.3: Arm, Crash and Revive.
func TestCrash(t *testing.T) {
	d := New()
	d.Write([]byte{1, 2})
	expect(t, d.Arm(-1), api.ErrArg, d.Crash(-1), api.ErrArg)
	if d.Dead() {
		t.Error("dead")
	}
	expect(t, d.Arm(0), api.OK, d.Arm(9), api.OK, d.Sync(), api.ErrDead)
	if !bytes.Equal(d.Read(), []byte{1, 2}) {
		t.Error(d.Read())
	}
	expect(t, d.Crash(-1), api.ErrArg, d.Crash(0), api.OK)
	if !bytes.Equal(d.Read(), []byte{1, 2}) || !d.Dead() {
		t.Error("a dead disk has no tail")
	}
	expect(t, d.Revive(), api.OK, d.Revive(), api.OK, d.Write([]byte{3}), api.OK, d.Sync(), api.OK)
	if d.Dead() || d.Synced() != 3 {
		t.Error("revived")
	}
	expect(t, d.Arm(0), api.OK, d.Revive(), api.OK, d.Sync(), api.OK, d.Write([]byte{4, 5}), api.OK, d.Crash(1<<62), api.OK)
	if len(d.Read()) != 5 || d.Synced() != 5 {
		t.Error(d.Read())
	}
}

// P13.4, P13.5: memory.
func TestMemory(t *testing.T) {
	d := New()
	b := []byte{1, 2}
	d.Write(b)
	b[0] = 9
	clear(d.Read())
	clear(d.Trace()[0])
	if !bytes.Equal(d.Read(), []byte{1, 2}) || !same(d, []byte{1, 2}) {
		t.Error("shared")
	}
	d.Swap(b)
	b[0] = 7
	d.Write([]byte{5})
	if !bytes.Equal(d.Read(), []byte{9, 2, 5}) || !same(d, []byte{1, 2}, []byte{9, 2}, []byte{5}) {
		t.Error("shared", d.Read(), d.Trace())
	}
}

// P13.6, P13.7: synced bytes remain, and the others are a prefix of what was written.
func TestLasting(t *testing.T) {
	d := New()
	var all, synced []byte
	state := uint32(3)
	for i := range 5000 {
		state = state*1664525 + 1013904223
		k := int(state>>8) % 5
		switch state >> 29 {
		case 0, 1, 2:
			b := bytes.Repeat([]byte{byte(i)}, k)
			if d.Write(b) == api.OK {
				all = append(all, b...)
			}
		case 3:
			if d.Sync() == api.OK {
				synced = bytes.Clone(all)
			}
		case 4:
			d.Arm(k)
		case 5:
			d.Crash(k)
		case 6:
			if d.Swap([]byte{byte(i), 1}) == api.OK {
				all = []byte{byte(i), 1}
				synced = bytes.Clone(all)
			}
		case 7:
			d.Revive()
		}
		got := d.Read()
		if !bytes.HasPrefix(got, synced) || !bytes.HasPrefix(all, got) || !d.Dead() && len(got) != len(all) || d.Synced() < len(synced) {
			t.Fatal(i, got, all, synced)
		}
		if d.Dead() {
			all = got
			synced = bytes.Clone(got)
		}
	}
}
