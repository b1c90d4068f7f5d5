package client

import (
	"bytes"

	"sealchain/api"
	"sealchain/seal"
)

// What the last request was made for.
const (
	asking  = 1
	putting = 2
)

// job is an operation that has not ended.
type job struct {
	deed        api.Deed
	name        api.Name // what the request is about
	stage       int
	first, last int
	version     int    // that was put
	env         []byte // that was put
	again       int    // how often it was put again
	read        api.Got
	over        bool
	got         api.Got
}

// thrown is what a panic carries out of an operation: the error that it ends with.
type thrown struct{ code api.Errno }

func throw(code api.Errno) { panic(thrown{code}) }

// catching does something that may throw.
func (c *Client) catching(do func()) {
	defer func() {
		if x := recover(); x != nil {
			t, is := x.(thrown)
			if !is {
				panic(x)
			}
			c.end(api.Got{Code: t.code})
		}
	}()
	do()
}

// end lets the operation end, once the call does.
func (c *Client) end(got api.Got) {
	c.job.over, c.job.got = true, got
}

// begin makes the first request.
func (c *Client) begin() {
	x := c.job.deed
	if len(x.Key) > 0 {
		c.job.name, _ = c.mode.Name(x.Key)
	}
	switch x.Kind {
	case api.OpGet:
		c.request(asking, api.Req{Kind: api.ReqGet, Name: c.job.name})
	case api.OpPut, api.OpDelete:
		c.putDeed(c.marks.Version(c.job.name) + 1)
	case api.OpPutIf:
		c.putDeed(x.Want + 1)
	case api.OpRotate:
		c.job.version = c.marks.Epoch() + 1
		c.request(asking, api.Req{Kind: api.ReqEpoch, Version: c.job.version})
	case api.OpSweep:
		c.request(asking, api.Req{Kind: api.ReqNext, Name: c.cursor})
	}
}

// request makes a request.
func (c *Client) request(stage int, r api.Req) {
	n, e := c.session.Ask(r)
	if e != api.OK {
		throw(api.ErrLimit)
	}
	if c.job.first == 0 {
		c.job.first = n
	}
	c.job.last = n
	c.job.stage = stage
}

// put seals something in the epoch of the marks, and requests that it be put.
func (c *Client) put(version int, value []byte, tomb bool) {
	env, e := seal.Seal(c.mode, c.tape, c.job.name, version, c.marks.Epoch(), value, tomb)
	if e != api.OK {
		throw(api.ErrLimit)
	}
	c.job.version, c.job.env = version, env
	c.request(putting, api.Req{Kind: api.ReqPut, Name: c.job.name, Version: version, Env: env})
}

// putDeed puts what the operation is to put.
func (c *Client) putDeed(version int) {
	x := c.job.deed
	c.put(version, x.Value, x.Kind == api.OpDelete)
}

// view opens an envelope, if it may be the one of that version.
func (c *Client) view(name api.Name, version int, env []byte) (value []byte, tomb bool, epoch int) {
	if version < 1 {
		throw(api.ErrTamper)
	}
	switch e := c.marks.Judge(name, version, env); e {
	case api.OK:
	case api.ErrRoll, api.ErrFork:
		throw(e)
	default:
		throw(api.ErrTamper)
	}
	value, tomb, epoch, e := seal.Open(c.mode, name, version, env)
	if e != api.OK {
		throw(api.ErrTamper)
	}
	c.note(name, version, env)
	return value, tomb, epoch
}

// note remembers what was seen, or put.
func (c *Client) note(name api.Name, version int, env []byte) {
	if c.marks.Note(name, version, env) != api.OK {
		throw(api.ErrLimit)
	}
}

// after is what an answer comes after: it says how the answer is processed.
type after struct {
	kind, stage, code int
}

// processes are those of all answers; any other one nobody honest sends.
func (c *Client) processes() map[after]func(a api.Ans) {
	return map[after]func(a api.Ans){
		{api.OpGet, asking, api.AnsOK}:     c.gotValue,
		{api.OpGet, asking, api.AnsNone}:   c.gotNone,
		{api.OpGet, putting, api.AnsOK}:    c.refreshed,
		{api.OpGet, putting, api.AnsNo}:    c.overtaken,
		{api.OpPut, putting, api.AnsOK}:    c.confirmed,
		{api.OpPut, putting, api.AnsNo}:    c.putAgain,
		{api.OpDelete, putting, api.AnsOK}: c.confirmed,
		{api.OpDelete, putting, api.AnsNo}: c.putAgain,
		{api.OpPutIf, putting, api.AnsOK}:  c.confirmed,
		{api.OpPutIf, putting, api.AnsNo}:  c.otherVersion,
		{api.OpRotate, asking, api.AnsOK}:  c.rotated,
		{api.OpRotate, asking, api.AnsNo}:  c.otherEpoch,
		{api.OpSweep, asking, api.AnsOK}:   c.swept,
		{api.OpSweep, asking, api.AnsNone}: c.sweptAll,
		{api.OpSweep, putting, api.AnsOK}:  c.confirmed,
		{api.OpSweep, putting, api.AnsNo}:  c.resealed,
	}
}

// process takes an answer to the last request.
func (c *Client) process(a api.Ans) {
	c.raise(a.Epoch)
	do, is := c.processes()[after{c.job.deed.Kind, c.job.stage, a.Code}]
	if !is {
		throw(api.ErrTamper)
	}
	do(a)
}

// raise lets the epoch be a later one.
func (c *Client) raise(epoch int) {
	if epoch > c.marks.Epoch() {
		c.marks.Raise(epoch)
	}
}

// giveUp ends an operation that got no answer: what was read is known all the same.
func (c *Client) giveUp() {
	if c.job.deed.Kind == api.OpGet && c.job.stage == putting {
		c.end(c.job.read)
		return
	}
	throw(api.ErrTime)
}

func (c *Client) gotValue(a api.Ans) {
	if a.Name != c.job.name {
		throw(api.ErrTamper)
	}
	value, tomb, epoch := c.view(a.Name, a.Version, a.Env)
	got := api.Got{Value: value, Tomb: tomb, Version: a.Version}
	if tomb {
		got.Code = api.ErrNone
	}
	c.job.read = got
	if epoch < c.marks.Epoch() {
		c.put(a.Version+1, value, tomb)
		return
	}
	c.end(got)
}

func (c *Client) gotNone(a api.Ans) {
	switch {
	case a.Version != 0:
		throw(api.ErrTamper)
	case c.marks.Version(c.job.name) > 0:
		throw(api.ErrRoll)
	}
	c.end(api.Got{Code: api.ErrNone})
}

// noteOwn remembers what was put, as it was confirmed.
func (c *Client) noteOwn(a api.Ans) {
	if a.Version != c.job.version {
		throw(api.ErrTamper)
	}
	c.note(c.job.name, c.job.version, c.job.env)
}

func (c *Client) refreshed(a api.Ans) {
	c.noteOwn(a)
	c.end(c.job.read)
}

func (c *Client) overtaken(a api.Ans) {
	c.refused(a)
	c.end(c.job.read)
}

func (c *Client) confirmed(a api.Ans) {
	c.noteOwn(a)
	c.end(api.Got{Version: a.Version})
}

// refused looks at what is there instead of what was put.
func (c *Client) refused(a api.Ans) {
	switch {
	case a.Name != c.job.name:
		throw(api.ErrTamper)
	case a.Version == c.job.version-1 && a.Version == 0:
		throw(api.ErrLimit) // the next version was refused: there is no room for the name
	case a.Version == c.job.version-1:
		throw(api.ErrTamper)
	case a.Version == 0 && c.marks.Version(c.job.name) > 0:
		throw(api.ErrRoll)
	case a.Version != 0:
		c.view(a.Name, a.Version, a.Env)
	}
}

func (c *Client) putAgain(a api.Ans) {
	c.refused(a)
	if c.job.again == mostAgain {
		c.end(api.Got{Code: api.ErrVersion, Version: a.Version})
		return
	}
	c.job.again++
	c.putDeed(a.Version + 1)
}

func (c *Client) otherVersion(a api.Ans) {
	c.refused(a)
	c.end(api.Got{Code: api.ErrVersion, Version: a.Version})
}

func (c *Client) rotated(a api.Ans) {
	if a.Version != c.job.version {
		throw(api.ErrTamper)
	}
	c.raise(a.Version)
	c.end(api.Got{Version: a.Version})
}

func (c *Client) otherEpoch(a api.Ans) {
	if a.Version == c.job.version-1 || a.Version < 0 || a.Version > api.MaxEpoch {
		throw(api.ErrTamper)
	}
	c.raise(a.Version)
	c.end(api.Got{Code: api.ErrVersion, Version: a.Version})
}

func (c *Client) swept(a api.Ans) {
	if bytes.Compare(a.Name[:], c.cursor[:]) <= 0 {
		throw(api.ErrTamper)
	}
	value, tomb, epoch := c.view(a.Name, a.Version, a.Env)
	c.cursor = a.Name
	if epoch < c.marks.Epoch() {
		c.job.name = a.Name
		c.put(a.Version+1, value, tomb)
		return
	}
	c.end(api.Got{Version: a.Version})
}

func (c *Client) sweptAll(a api.Ans) {
	c.cursor = api.Name{}
	c.end(api.Got{Code: api.ErrNone})
}

func (c *Client) resealed(a api.Ans) {
	c.refused(a)
	c.end(api.Got{Version: a.Version})
}
