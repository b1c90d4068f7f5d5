package chain

import (
	"sealchain/api"
	"sealchain/num"
	"sealchain/pack"
	"sealchain/table"
)

// Kinds of rows.
const (
	rowConf     = 1
	rowEntry    = 2
	rowSnapshot = 3
)

const mostText = 40000 // bytes of a row

// textRow is a row of a kind, and a part of it as a string.
func textRow(kind int, part []byte) *num.Writer {
	return num.Write().Num(1, kind).Text(part)
}

func confRow(c api.Config) ([]byte, api.Errno) {
	part, e := pack.BytesConf(c)
	if e != api.OK {
		return nil, e
	}
	return textRow(rowConf, part).Bytes()
}

func entryRow(n int, q api.Req) ([]byte, api.Errno) {
	part, e := pack.BytesReq(q)
	if e != api.OK {
		return nil, e
	}
	return num.Write().Num(1, rowEntry).Count(n).Text(part).Bytes()
}

// snapshotRow is that of a state without entries.
func snapshotRow(c api.Config, base int, b []byte) ([]byte, api.Errno) {
	part, e := pack.BytesConf(c)
	if e != api.OK {
		return nil, e
	}
	return textRow(rowSnapshot, part).Num(1, 1).Count(base).Text(b).Bytes()
}

// apply lets a row take effect; false if it is invalid.
func (r *Replica) apply(row []byte) bool {
	b := num.Read(row)
	switch b.Num(1) {
	case rowConf:
		return r.applyConf(b)
	case rowEntry:
		return r.applyEntry(b)
	case rowSnapshot:
		return r.applySnapshot(b)
	}
	return false
}

func (r *Replica) applyConf(b *num.Reader) bool {
	c, e := pack.ParseConf(b.Text(mostText))
	if e != api.OK || b.End() != api.OK || c.Num <= r.conf.Num {
		return false
	}
	r.adopt(c)
	return true
}

func (r *Replica) applyEntry(b *num.Reader) bool {
	n := b.Count(api.MaxNumber)
	q, e := pack.ParseReq(b.Text(mostText))
	if e != api.OK || b.End() != api.OK || !r.state.has || n != r.state.last()+1 {
		return false
	}
	_, e = r.state.execute(q)
	return e == api.OK
}

func (r *Replica) applySnapshot(b *num.Reader) bool {
	c, e := pack.ParseConf(b.Text(mostText))
	has, base, text := b.Num(1), b.Count(api.MaxNumber), b.Text(mostText)
	if e != api.OK || b.End() != api.OK || has > 1 {
		return false
	}
	next := noState()
	if has == 1 {
		t, e := table.Open(text)
		if e != api.OK {
			return false
		}
		next = state{Table: t, has: true, base: base}
	} else if base != 0 || len(text) > 0 {
		return false
	}
	r.conf, r.state = c, next
	return true
}
