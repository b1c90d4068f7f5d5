package pack

import (
	"sealchain/api"
)

const (
	mostEnv   = 1024
	mostBytes = 32768
	mostVotes = 8
)

func isNumber(n int) bool { return n >= 0 && n <= api.MaxNumber }

// isPositive tells whether n is a number from 1 on.
func isPositive(n int) bool { return n >= 1 && n <= api.MaxNumber }

func isMaster(n int) bool { return n >= 0 && n < api.MaxMasters }

func isReplica(n int) bool { return n >= api.Replica0 && n < api.Replica0+api.MaxReplicas }

func isClient(n int) bool { return n >= 0 && n < api.MaxClients }

func isNode(n int) bool { return isMaster(n) || isReplica(n) || isClient(n-api.Client0) }

// told is the error of something that has to be so.
func told(is bool) api.Errno {
	if is {
		return api.OK
	}
	return api.ErrArg
}

// CheckReq tells which requests may be.
func CheckReq(r api.Req) api.Errno {
	if !isClient(r.Client) || !isPositive(r.Num) {
		return api.ErrArg
	}
	switch r.Kind {
	case api.ReqGet, api.ReqNext:
		return told(r.Version == 0 && len(r.Env) == 0)
	case api.ReqPut:
		return told(isPositive(r.Version) && len(r.Env) >= 1 && len(r.Env) <= mostEnv)
	case api.ReqEpoch:
		return told(r.Version >= 1 && r.Version <= api.MaxEpoch && r.Name == api.Name{} && len(r.Env) == 0)
	}
	return api.ErrArg
}

// CheckAns tells which answers may be.
func CheckAns(a api.Ans) api.Errno {
	return told(isClient(a.Client) && isPositive(a.Num) &&
		a.Code >= api.AnsOK && a.Code <= api.AnsOld && isNumber(a.Version) &&
		a.Epoch >= 0 && a.Epoch <= api.MaxEpoch && len(a.Env) <= mostEnv)
}

// CheckConf tells which configurations may be.
func CheckConf(c api.Config) api.Errno {
	if !isNumber(c.Num) || len(c.Chain) < 1 || len(c.Chain) > api.MaxReplicas || c.Full < 1 || c.Full > len(c.Chain) {
		return api.ErrArg
	}
	for i, node := range c.Chain {
		if !isReplica(node) {
			return api.ErrArg
		}
		for _, other := range c.Chain[:i] {
			if other == node {
				return api.ErrArg
			}
		}
	}
	return api.OK
}

// checkVotes tells which lists of votes may be.
func checkVotes(votes []api.Vote) api.Errno {
	if len(votes) > mostVotes {
		return api.ErrArg
	}
	for _, v := range votes {
		if !isPositive(v.Ballot) || CheckConf(v.Conf) != api.OK {
			return api.ErrArg
		}
	}
	return api.OK
}

// isSeq tells whether a kind of packets may have that Seq.
func isSeq(kind, seq int) bool {
	least := 0
	if kind == api.PkHave {
		least = -1
	}
	return seq >= least && seq < api.MaxNumber
}

// Check tells which packets may be.
func Check(p api.Packet) api.Errno {
	has := fieldsOf(p.Kind)
	if has == noKind || !isNode(p.From) || !isNode(p.To) || !Same(p, reduced(p, has)) {
		return api.ErrArg
	}
	good := isNumber(p.Num) && isNumber(p.Ballot) && isSeq(p.Kind, p.Seq) && len(p.Bytes) <= mostBytes &&
		(has&hasReq == 0 || CheckReq(p.Req) == api.OK) &&
		(has&hasAns == 0 || CheckAns(p.Ans) == api.OK) &&
		(has&hasConf == 0 || CheckConf(p.Conf) == api.OK) &&
		checkVotes(p.Votes) == api.OK
	return told(good)
}

// only is x if a bit is set.
func only[T any](bit int, x T) T {
	var none T
	if bit == 0 {
		return none
	}
	return x
}

// reduced is what a packet would be with these fields alone.
func reduced(p api.Packet, has int) api.Packet {
	return api.Packet{
		Kind: p.Kind, From: p.From, To: p.To,
		Num:    only(has&hasNum, p.Num),
		Seq:    only(has&hasSeq, p.Seq),
		Ballot: only(has&hasBallot, p.Ballot),
		Ready:  only(has&hasReady, p.Ready),
		Req:    only(has&hasReq, p.Req),
		Ans:    only(has&hasAns, p.Ans),
		Conf:   only(has&hasConf, p.Conf),
		Votes:  only(has&hasVotes, p.Votes),
		Bytes:  only(has&hasBytes, p.Bytes),
	}
}
