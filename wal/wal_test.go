package wal

import (
	"bytes"
	"slices"
	"testing"

	"sealchain/api"
	"sealchain/disk"
	"sealchain/sha"
)

func filled(n int) []byte {
	b := make([]byte, n)
	for i := range b {
		b[i] = byte(i*7 + 1)
	}
	return b
}

func record(row ...byte) []byte {
	b, _ := Record(row)
	return b
}

func same(a, b [][]byte) bool { return slices.EqualFunc(a, b, bytes.Equal) }

func opened(t *testing.T, d *disk.Disk) *Log {
	t.Helper()
	l, e := Open(d)
	if e != api.OK {
		t.Fatal(e)
	}
	return l
}

// The chapter's examples.
func TestExamples(t *testing.T) {
	if !bytes.Equal(record()[:4], []byte{0, 0, 0xFF, 0xFF}) || !bytes.Equal(record(7, 8)[:6], []byte{0, 2, 0xFF, 0xFD, 7, 8}) {
		t.Error("Record")
	}
	b := append(record(7), record(8)[:6]...)
	if rows, whole, e := Scan(b); !same(rows, [][]byte{{7}}) || whole != 9 || e != api.OK {
		t.Error(rows, whole, e)
	}
	b[0] = 1
	if rows, whole, e := Scan(b); len(rows) != 0 || whole != 0 || e != api.ErrSpoil {
		t.Error(rows, whole, e)
	}
	d := disk.New()
	l := opened(t, d)
	if l.Add([]byte{7}, []byte{8}) != api.OK || l.Len() != 2 {
		t.Error(l.Len())
	}
	d.Arm(5)
	if l.Add([]byte{9}) != api.ErrDead || !l.Dead() {
		t.Error("armed")
	}
	d.Revive()
	if !same(opened(t, d).Rows(), [][]byte{{7}, {8}}) {
		t.Error("reopened")
	}
}

// Nil and zero logs.
func TestNone(t *testing.T) {
	for _, l := range []*Log{nil, {}} {
		if l.Add() != api.ErrNil || l.Add(make([]byte, 40001)) != api.ErrNil || l.Swap() != api.ErrNil {
			t.Error("no ErrNil")
		}
		if len(l.Rows()) != 0 || l.Len() != 0 || l.Dead() {
			t.Error("is something")
		}
	}
}

// P14.1: Record and Scan.
func TestScan(t *testing.T) {
	if b, e := Record(make([]byte, 40001)); b != nil || e != api.ErrLimit {
		t.Error(e)
	}
	b, e := Record(filled(40000))
	sum := sha.Sum(b[:40004])
	if e != api.OK || len(b) != 40008 || !bytes.Equal(b[:4], []byte{0x9C, 0x40, 0x63, 0xBF}) || !bytes.Equal(b[40004:], sum[:4]) {
		t.Error(e)
	}
	if rows, whole, e := Scan(b); e != api.OK || whole != 40008 || len(rows) != 1 {
		t.Error(whole, e)
	}
	// A record of a row that is too long, but right otherwise.
	long := append([]byte{0x9C, 0x41, 0x63, 0xBE}, make([]byte, 40001)...)
	sum = sha.Sum(long)
	long = append(long, sum[:4]...)
	spoilt := record(7)
	spoilt[8]++
	for i, c := range []struct {
		b     []byte
		rows  [][]byte
		whole int
		want  api.Errno
	}{
		{nil, nil, 0, api.OK},
		{[]byte{0}, nil, 0, api.OK},
		{[]byte{9, 9, 9}, nil, 0, api.OK},
		{[]byte{9, 9, 9, 9}, nil, 0, api.ErrSpoil},
		{[]byte{0, 1, 0xFF, 0xFE}, nil, 0, api.OK},
		{[]byte{0xFF, 0xFF, 0, 0}, nil, 0, api.OK},
		{spoilt, nil, 0, api.ErrSpoil},
		{append(record(), spoilt...), [][]byte{{}}, 8, api.ErrSpoil},
		{append(record(1), 0, 0, 0, 0), [][]byte{{1}}, 9, api.ErrSpoil},
		{long, nil, 0, api.ErrSpoil},
		{long[:40008], nil, 0, api.OK},
	} {
		if rows, whole, e := Scan(c.b); !same(rows, c.rows) || whole != c.whole || e != c.want {
			t.Error(i, rows, whole, e)
		}
	}
}

// P14.2: opening.
func TestOpen(t *testing.T) {
	for _, d := range []*disk.Disk{nil, {}} {
		if l, e := Open(d); l != nil || e != api.ErrNil {
			t.Error(e)
		}
	}
	d := disk.New()
	d.Write(append(record(1), record(2)[:8]...))
	d.Crash(1 << 20)
	if l, e := Open(d); l != nil || e != api.ErrDead {
		t.Error(e)
	}
	d.Revive()
	l := opened(t, d)
	if !same(l.Rows(), [][]byte{{1}}) || !bytes.Equal(d.Read(), record(1)) || d.Synced() != 9 {
		t.Error(l.Rows(), d.Read())
	}
	d = disk.New()
	d.Write([]byte{1, 2, 3, 4})
	if l, e := Open(d); l != nil || e != api.ErrSpoil || len(d.Read()) != 4 {
		t.Error(e)
	}
}

// P14.3: Add and Swap, in one piece each, and their limits.
func TestAddSwap(t *testing.T) {
	d := disk.New()
	l := opened(t, d)
	long := make([]byte, 40001)
	if l.Add([]byte{1}, long) != api.ErrLimit || l.Swap(long) != api.ErrLimit || l.Len() != 0 || len(d.Trace()) != 0 {
		t.Error("too long")
	}
	l.Add([]byte{1}, nil)
	l.Add([]byte{2})
	want := [][]byte{append(record(1), record()...), record(2)}
	if !same(d.Trace(), want) || d.Synced() != 26 || l.Len() != 3 {
		t.Error(d.Trace(), d.Synced())
	}
	d.Write(nil)
	trace := len(d.Trace())
	if l.Add() != api.OK || len(d.Trace()) != trace {
		t.Error("without rows")
	}
	l.Swap([]byte{3}, []byte{4})
	if !same(l.Rows(), [][]byte{{3}, {4}}) || !bytes.Equal(d.Read(), append(record(3), record(4)...)) {
		t.Error(l.Rows(), d.Read())
	}
	var many [][]byte
	for range 26 {
		many = append(many, long[:40000])
	}
	if l.Swap(append(many, long[:40000])...) != api.ErrLimit || l.Len() != 2 {
		t.Error("too much")
	}
	if l.Swap(many...) != api.OK || l.Add(long[:8361]) != api.ErrLimit || l.Len() != 26 {
		t.Error("too much", l.Len())
	}
	if l.Add(long[:8360]) != api.OK || len(d.Read()) != 1<<20 || l.Len() != 27 {
		t.Error(len(d.Read()))
	}
	if l.Swap() != api.OK || l.Len() != 0 || len(d.Read()) != 0 {
		t.Error("Swap without rows")
	}
	if l.Swap(append(many, long[:8360])...) != api.OK || len(d.Read()) != 1<<20 {
		t.Error("just enough")
	}
	if l.Swap(many[:25]...) != api.OK || l.Add(long[:40000]) != api.OK {
		t.Error("many")
	}
	d.Crash(0)
	if l.Add(long[:8361]) != api.ErrLimit || l.Swap(append(many, long[:40000])...) != api.ErrLimit || l.Dead() || l.Add(long[:8360]) != api.ErrDead {
		t.Error("too much is told before the disk is asked")
	}
}

// P14.3, P14.4: a dead log.
func TestDead(t *testing.T) {
	long := make([]byte, 40001)
	for i, call := range []func(l *Log) api.Errno{
		func(l *Log) api.Errno { return l.Add() },
		func(l *Log) api.Errno { return l.Add([]byte{2}) },
		func(l *Log) api.Errno { return l.Swap([]byte{2}) },
	} {
		for _, armed := range []bool{true, false} {
			d := disk.New()
			l := opened(t, d)
			l.Add([]byte{1})
			if armed {
				d.Arm(3)
			} else {
				d.Crash(0)
			}
			if l.Add(long) != api.ErrLimit || l.Dead() {
				t.Error("dead too early")
			}
			if call(l) != api.ErrDead || !l.Dead() || !same(l.Rows(), [][]byte{{1}}) || l.Len() != 1 {
				t.Error(i, l.Dead(), l.Rows())
			}
			d.Revive()
			if l.Add(long) != api.ErrDead || l.Swap(long) != api.ErrDead || l.Add() != api.ErrDead {
				t.Error(i)
			}
		}
	}
}

// P14.5: memory.
func TestMemory(t *testing.T) {
	d := disk.New()
	l := opened(t, d)
	row := []byte{1, 2}
	rows := [][]byte{row, {3}}
	l.Add(rows...)
	row[0] = 9
	rows[1] = nil
	clear(l.Rows()[0])
	if !same(l.Rows(), [][]byte{{1, 2}, {3}}) || !same(opened(t, d).Rows(), l.Rows()) {
		t.Error(l.Rows())
	}
	b := append(record(5, 6), record(7)...)
	got, _, _ := Scan(b)
	got[0] = append(got[0], 1, 2, 3, 4, 5, 6, 7, 8, 9)
	got[0][0] = 0
	if !bytes.Equal(b, append(record(5, 6), record(7)...)) {
		t.Error("Scan shares")
	}
}

// P14.6: cut off anywhere, all complete rows are there.
func TestCutOff(t *testing.T) {
	var all []byte
	var rows [][]byte
	ends := []int{0}
	for _, n := range []int{0, 1, 5, 300, 2} {
		rows = append(rows, filled(n))
		b, _ := Record(filled(n))
		all = append(all, b...)
		ends = append(ends, len(all))
	}
	for n := range len(all) + 1 {
		k := 0
		for k+1 < len(ends) && ends[k+1] <= n {
			k++
		}
		got, whole, e := Scan(all[:n])
		if e != api.OK || whole != ends[k] || !same(got, rows[:k]) {
			t.Fatal(n, whole, e)
		}
		again, _ := records(got)
		if !bytes.Equal(again, all[:whole]) {
			t.Fatal(n)
		}
	}
}

// P14.7: wherever the disk fails.
func TestFails(t *testing.T) {
	for cut := range 40 {
		for _, swap := range []bool{false, true} {
			d := disk.New()
			l := opened(t, d)
			l.Add([]byte{1}, []byte{2, 3})
			d.Arm(cut)
			added := [][]byte{{4}, {5, 6}, {7}}
			want := [][]byte{{1}, {2, 3}}
			if swap {
				l.Swap(added...)
			} else {
				l.Add(added...)
				for i, end := range []int{9, 19, 28} {
					if cut >= end {
						want = append(want, added[i])
					}
				}
			}
			d.Revive()
			if got := opened(t, d).Rows(); !same(got, want) {
				t.Error(cut, swap, got)
			}
		}
	}
}

// P14.8: flipped bits.
func TestFlipped(t *testing.T) {
	all := append(append(record(1, 2, 3), record()...), record(4)...)
	ends := []int{11, 19, 28}
	rows := [][]byte{{1, 2, 3}, {}, {4}}
	for i := range all {
		for x := 1; x < 256; x++ {
			b := bytes.Clone(all)
			b[i] ^= byte(x)
			k := 0
			for ends[k] <= i {
				k++
			}
			if got, _, e := Scan(b); e != api.ErrSpoil || !same(got, rows[:k]) {
				t.Fatal(i, x, got, e)
			}
		}
	}
}
