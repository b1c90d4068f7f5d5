package pack

import (
	"sealchain/api"
	"sealchain/num"
)

// BytesReq are a request's.
func BytesReq(r api.Req) ([]byte, api.Errno) {
	if e := CheckReq(r); e != api.OK {
		return nil, e
	}
	return num.Write().Num(1, r.Client).Count(r.Num).Num(1, r.Kind).Count(r.Version).
		Raw(r.Name[:]).Text(r.Env).Bytes()
}

// BytesAns are an answer's.
func BytesAns(a api.Ans) ([]byte, api.Errno) {
	if e := CheckAns(a); e != api.OK {
		return nil, e
	}
	return num.Write().Num(1, a.Client).Count(a.Num).Num(1, a.Code).Count(a.Version).Num(1, a.Epoch).
		Raw(a.Name[:]).Text(a.Env).Bytes()
}

// BytesConf are a configuration's.
func BytesConf(c api.Config) ([]byte, api.Errno) {
	if e := CheckConf(c); e != api.OK {
		return nil, e
	}
	w := num.Write().Count(c.Num).Num(1, c.Full).Num(1, len(c.Chain))
	for _, node := range c.Chain {
		w.Num(1, node)
	}
	return w.Bytes()
}

// writePart writes a part as a string.
func writePart[T any](w *num.Writer, x T, encode func(T) ([]byte, api.Errno)) {
	b, _ := encode(x) // all of the packet was checked before
	w.Text(b)
}

// Bytes are a packet's.
func Bytes(p api.Packet) ([]byte, api.Errno) {
	if e := Check(p); e != api.OK {
		return nil, e
	}
	has := fieldsOf(p.Kind)
	w := num.Write().Num(1, p.Kind).Num(1, p.From).Num(1, p.To)
	if has&hasNum != 0 {
		w.Count(p.Num)
	}
	if has&hasSeq != 0 {
		w.Count(p.Seq + 1)
	}
	if has&hasBallot != 0 {
		w.Count(p.Ballot)
	}
	if has&hasReady != 0 {
		writeReady(w, p.Ready)
	}
	if has&hasReq != 0 {
		writePart(w, p.Req, BytesReq)
	}
	if has&hasAns != 0 {
		writePart(w, p.Ans, BytesAns)
	}
	if has&hasConf != 0 {
		writePart(w, p.Conf, BytesConf)
	}
	if has&hasVotes != 0 {
		writeVotes(w, p.Votes)
	}
	if has&hasBytes != 0 {
		w.Text(p.Bytes)
	}
	return w.Bytes()
}

func writeReady(w *num.Writer, ready bool) {
	if ready {
		w.Num(1, 1)
	} else {
		w.Num(1, 0)
	}
}

func writeVotes(w *num.Writer, votes []api.Vote) {
	w.Num(1, len(votes))
	for _, v := range votes {
		w.Count(v.Ballot)
		writePart(w, v.Conf, BytesConf)
	}
}
