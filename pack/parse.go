package pack

import (
	"sealchain/api"
	"sealchain/num"
)

// mostPart is how many bytes a part of a packet may have at most.
const mostPart = 2048

// ended is what was read, if nothing remains and it may be so.
func ended[T any](r *num.Reader, x T, check func(T) api.Errno) (T, api.Errno) {
	var none T
	if e := r.End(); e != api.OK {
		return none, e
	}
	if check(x) != api.OK {
		return none, api.ErrForm
	}
	return x, api.OK
}

func readName(r *num.Reader) api.Name {
	var name api.Name
	copy(name[:], r.Raw(len(name)))
	return name
}

// ParseReq reads a request.
func ParseReq(b []byte) (api.Req, api.Errno) {
	r := num.Read(b)
	var q api.Req
	q.Client = r.Num(1)
	q.Num = r.Count(api.MaxNumber)
	q.Kind = r.Num(1)
	q.Version = r.Count(api.MaxNumber)
	q.Name = readName(r)
	q.Env = r.Text(mostEnv)
	return ended(r, q, CheckReq)
}

// ParseAns reads an answer.
func ParseAns(b []byte) (api.Ans, api.Errno) {
	r := num.Read(b)
	var a api.Ans
	a.Client = r.Num(1)
	a.Num = r.Count(api.MaxNumber)
	a.Code = r.Num(1)
	a.Version = r.Count(api.MaxNumber)
	a.Epoch = r.Num(1)
	a.Name = readName(r)
	a.Env = r.Text(mostEnv)
	return ended(r, a, CheckAns)
}

// ParseConf reads a configuration: one replica too many is enough to refuse it.
func ParseConf(b []byte) (api.Config, api.Errno) {
	r := num.Read(b)
	var c api.Config
	c.Num = r.Count(api.MaxNumber)
	c.Full = r.Num(1)
	for range min(r.Num(1), api.MaxReplicas+1) {
		c.Chain = append(c.Chain, r.Num(1))
	}
	return ended(r, c, CheckConf)
}

// source is what the bytes of a packet are read from: a reader, and the first error of a part.
type source struct {
	*num.Reader
	part api.Errno
}

// first is the first error, of the reader or of a part.
func (s *source) first() api.Errno {
	if s.part != api.OK {
		return s.part
	}
	return s.Err()
}

// readPart reads a string, and a part out of it.
func readPart[T any](s *source, parse func([]byte) (T, api.Errno)) T {
	var none T
	b := s.Text(mostPart)
	if s.first() != api.OK {
		return none
	}
	x, e := parse(b)
	s.part = e
	return x
}

// Parse reads a packet.
func Parse(b []byte) (api.Packet, api.Errno) {
	s := &source{Reader: num.Read(b)}
	var p api.Packet
	p.Kind, p.From, p.To = s.Num(1), s.Num(1), s.Num(1)
	has := fieldsOf(p.Kind)
	if s.first() == api.OK && has == noKind {
		return api.Packet{}, api.ErrForm
	}
	readFields(s, &p, has)
	if e := s.first(); e != api.OK {
		return api.Packet{}, e
	}
	return ended(s.Reader, p, Check)
}

// readFields reads those of a kind; behind an error nothing is read.
func readFields(s *source, p *api.Packet, has int) {
	if has&hasNum != 0 {
		p.Num = s.Count(api.MaxNumber)
	}
	if has&hasSeq != 0 {
		p.Seq = s.Count(api.MaxNumber) - 1
	}
	if has&hasBallot != 0 {
		p.Ballot = s.Count(api.MaxNumber)
	}
	if has&hasReady != 0 {
		p.Ready = readReady(s)
	}
	if has&hasReq != 0 {
		p.Req = readPart(s, ParseReq)
	}
	if has&hasAns != 0 {
		p.Ans = readPart(s, ParseAns)
	}
	if has&hasConf != 0 {
		p.Conf = readPart(s, ParseConf)
	}
	if has&hasVotes != 0 {
		p.Votes = readVotes(s)
	}
	if has&hasBytes != 0 {
		p.Bytes = s.Text(mostBytes)
	}
}

func readReady(s *source) bool {
	n := s.Num(1)
	if n > 1 {
		s.part = api.ErrForm
	}
	return n == 1
}

// readVotes reads one vote too many at most.
func readVotes(s *source) []api.Vote {
	var votes []api.Vote
	for range min(s.Num(1), mostVotes+1) {
		v := api.Vote{Ballot: s.Count(api.MaxNumber)}
		v.Conf = readPart(s, ParseConf)
		if s.first() != api.OK {
			return nil
		}
		votes = append(votes, v)
	}
	return votes
}
