package vote

import (
	"sealchain/api"
	"sealchain/num"
	"sealchain/pack"
)

// Kinds of rows.
const (
	rowPromise = 1
	rowVote    = 2
	rowFloor   = 3
)

const mostConf = 2048 // bytes of a configuration, more than any has

// row is what was written, of one kind or another.
type row interface {
	bytes() ([]byte, api.Errno)
}

type promise struct{ ballot int }

type vote struct{ api.Vote }

type floor struct{ number int }

func (p promise) bytes() ([]byte, api.Errno) {
	return num.Write().Num(1, rowPromise).Count(p.ballot).Bytes()
}

func (v vote) bytes() ([]byte, api.Errno) {
	conf, e := pack.BytesConf(v.Conf)
	if e != api.OK {
		return nil, e
	}
	return num.Write().Num(1, rowVote).Count(v.Ballot).Text(conf).Bytes()
}

func (f floor) bytes() ([]byte, api.Errno) {
	return num.Write().Num(1, rowFloor).Count(f.number).Bytes()
}

// parse reads a row.
func parse(b []byte) (row, api.Errno) {
	r := num.Read(b)
	kind, n := r.Num(1), r.Count(api.MaxNumber)
	var out row
	switch kind {
	case rowPromise:
		out = promise{n}
	case rowVote:
		conf, e := pack.ParseConf(r.Text(mostConf))
		if e != api.OK {
			return nil, e
		}
		out = vote{api.Vote{Ballot: n, Conf: conf}}
	case rowFloor:
		out = floor{n}
	default:
		return nil, api.ErrForm
	}
	if e := r.End(); e != api.OK {
		return nil, e
	}
	if n == 0 {
		return nil, api.ErrForm
	}
	return out, api.OK
}
