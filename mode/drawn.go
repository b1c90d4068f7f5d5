package mode

import (
	"sealchain/api"
	"sealchain/tape"
)

// record is what is remembered, by what it is asked for with.
type record[K comparable, V any] struct {
	rows map[K]V
}

func (r *record[K, V]) put(key K, value V) {
	if r.rows == nil {
		r.rows = map[K]V{}
	}
	r.rows[key] = value
}

func (r *record[K, V]) get(key K) (V, bool) {
	value, is := r.rows[key]
	return value, is
}

func (r *record[K, V]) count() int { return len(r.rows) }

// sealed is what a box was sealed as.
type sealed struct {
	epoch     int
	head, box string
}

// drawn is the ideal mode: names and boxes are chance, and it remembers what they stand for.
type drawn struct {
	tape  *tape.Tape
	names record[string, api.Name]
	boxes record[sealed, []byte]
}

func newDrawn(t *tape.Tape) *drawn {
	return &drawn{tape: t}
}

func (d *drawn) real() bool { return false }

func (d *drawn) count() int { return d.boxes.count() }

func (d *drawn) name(key []byte) api.Name {
	if name, is := d.names.get(string(key)); is {
		return name
	}
	var name api.Name
	copy(name[:], d.tape.Draw(len(name)))
	d.names.put(string(key), name)
	return name
}

func (d *drawn) seal(t *tape.Tape, epoch int, head, plain []byte) ([]byte, api.Errno) {
	box := t.Draw(len(plain) + extra)
	d.boxes.put(sealed{epoch, string(head), string(box)}, append([]byte(nil), plain...))
	return box, api.OK
}

func (d *drawn) open(epoch int, head, box []byte) ([]byte, api.Errno) {
	plain, is := d.boxes.get(sealed{epoch, string(head), string(box)})
	if !is {
		return nil, api.ErrTamper
	}
	return append([]byte(nil), plain...), api.OK
}
