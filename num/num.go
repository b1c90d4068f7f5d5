// Package num is layer 1, the encoding of numbers and byte strings: see shared/doc/01-num.md.
package num

import (
	"sealchain/api"
)

// longest is how many bytes a count may have at most.
const longest = 8

// isWidth tells whether numbers may have that many bytes.
func isWidth(width int) bool {
	return width == 1 || width == 2 || width == 4 || width == 8
}

// fits tells whether n is a number of that width: the widest ones stop at MaxNumber, which every count can express, too.
func fits(width, n int) bool {
	if width == 8 {
		return n >= 0 && n <= api.MaxNumber
	}
	return n >= 0 && n < 1<<(8*width)
}

// Writer writes bytes, one thing behind the other.
type Writer struct {
	bytes []byte
	err   api.Errno
}

// Write has none yet.
func Write() *Writer { return &Writer{} }

// closed tells that nothing more can be written.
func (w *Writer) closed() bool { return w == nil || w.err != api.OK }

// Num writes a number of a width.
func (w *Writer) Num(width, n int) *Writer {
	if w.closed() {
		return w
	}
	if !isWidth(width) {
		w.err = api.ErrArg
		return w
	}
	if !fits(width, n) {
		w.err = api.ErrRange
		return w
	}
	for i := range width {
		w.bytes = append(w.bytes, byte(n>>(8*(width-1-i))))
	}
	return w
}

// Count writes a count.
func (w *Writer) Count(n int) *Writer {
	if w.closed() {
		return w
	}
	if n < 0 || n > api.MaxNumber {
		w.err = api.ErrRange
		return w
	}
	groups := 1
	for n>>(7*groups) > 0 {
		groups++
	}
	for i := range groups {
		b := byte(n>>(7*(groups-1-i))) & 0x7F
		if i < groups-1 {
			b |= 0x80
		}
		w.bytes = append(w.bytes, b)
	}
	return w
}

// Text writes a string.
func (w *Writer) Text(b []byte) *Writer {
	return w.Count(len(b)).Raw(b)
}

// Raw writes bytes without their number.
func (w *Writer) Raw(b []byte) *Writer {
	if w.closed() {
		return w
	}
	w.bytes = append(w.bytes, b...)
	return w
}

// Bytes are what was written.
func (w *Writer) Bytes() ([]byte, api.Errno) {
	if w == nil {
		return nil, api.ErrNil
	}
	if w.err != api.OK {
		return nil, w.err
	}
	return append([]byte(nil), w.bytes...), api.OK
}

// Reader reads bytes, one thing behind the other.
type Reader struct {
	bytes []byte
	err   api.Errno
}

// Read is one of bytes.
func Read(b []byte) *Reader {
	return &Reader{bytes: append([]byte(nil), b...)}
}

// fail keeps the first error; nothing remains behind it.
func (r *Reader) fail(e api.Errno) {
	if r != nil && r.err == api.OK {
		r.err, r.bytes = e, nil
	}
}

// take removes the next n bytes, if there are as many.
func (r *Reader) take(n int) ([]byte, bool) {
	if r == nil || r.err != api.OK {
		return nil, false
	}
	if n > len(r.bytes) {
		r.fail(api.ErrTrunc)
		return nil, false
	}
	b := r.bytes[:n]
	r.bytes = r.bytes[n:]
	return b, true
}

// Num reads a number of a width.
func (r *Reader) Num(width int) int {
	if !isWidth(width) {
		r.fail(api.ErrArg)
		return 0
	}
	b, is := r.take(width)
	if !is {
		return 0
	}
	// Eight bytes may not fit into an int.
	n := uint64(0)
	for i := range width {
		n = n<<8 | uint64(b[i])
	}
	if n > api.MaxNumber {
		r.fail(api.ErrRange)
		return 0
	}
	return int(n)
}

// Count reads a count.
func (r *Reader) Count(most int) int {
	n, size := 0, 0
bytes:
	for {
		b, is := r.take(1)
		if !is {
			return 0
		}
		size++
		n = n<<7 | int(b[0]&0x7F)
		switch {
		case size == 1 && b[0] == 0x80:
			break bytes
		case b[0] < 0x80:
			return r.bounded(n, most)
		case size == longest:
			break bytes
		}
	}
	r.fail(api.ErrForm)
	return 0
}

// bounded is a count that was read, unless it is too great.
func (r *Reader) bounded(n, most int) int {
	switch {
	case n > api.MaxNumber:
		r.fail(api.ErrRange)
	case n > most:
		r.fail(api.ErrLimit)
	default:
		return n
	}
	return 0
}

// Text reads a string.
func (r *Reader) Text(most int) []byte {
	return r.Raw(r.Count(most))
}

// Raw reads bytes without their number.
func (r *Reader) Raw(n int) []byte {
	if n < 0 {
		r.fail(api.ErrArg)
		return nil
	}
	b, is := r.take(n)
	if !is {
		return nil
	}
	return append([]byte(nil), b...)
}

// Left is how many bytes remain.
func (r *Reader) Left() int {
	if r == nil {
		return 0
	}
	return len(r.bytes)
}

// Err is what was wrong first.
func (r *Reader) Err() api.Errno {
	if r == nil {
		return api.OK
	}
	return r.err
}

// End tells, too, when something remains.
func (r *Reader) End() api.Errno {
	if e := r.Err(); e != api.OK {
		return e
	}
	if r.Left() > 0 {
		return api.ErrForm
	}
	return api.OK
}
