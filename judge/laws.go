package judge

import (
	"bytes"

	"sealchain/api"
)

// invalid is rule 1.
func invalid(c *court, at int) bool {
	h := c.things[at]
	asked := h.First == 0 && h.Last == 0 || h.First >= 1 && h.Last >= h.First
	valid := h.Client >= 0 && h.Client < api.MaxClients && h.Kind >= api.OpGet && h.Kind <= api.LastOp &&
		h.Begin >= 1 && (h.End == 0 || h.End >= h.Begin) && asked && isCode(h.Code)
	return !valid
}

// isCode tells whether an honest chain can let an operation end so.
func isCode(e api.Errno) bool {
	switch e {
	case api.OK, api.ErrArg, api.ErrLimit, api.ErrSize, api.ErrNone, api.ErrVersion, api.ErrTime, api.ErrEpoch:
		return true
	}
	return false
}

// unopened is rule 2; it executes the request, so that all later rules know what it did.
func unopened(c *court, at int) bool {
	q := c.order[at-1]
	if _, is := c.first[request{q.Client, q.Num}]; !is {
		c.first[request{q.Client, q.Num}] = at
	}
	effect, e := c.state.Do(q)
	if e != api.OK {
		return true
	}
	c.effects[at-1] = effect
	if effect && q.Kind == api.ReqPut {
		line := c.past[q.Name]
		if line == nil {
			line = &timeline[content]{}
			c.past[q.Name] = line
		}
		line.set(at, c.state.names[q.Name])
	}
	return false
}

// unrequested is rule 3.
func unrequested(c *court, at int) bool {
	q := c.order[at-1]
	if q.Kind != api.ReqPut || !c.effects[at-1] {
		return false
	}
	i, is := c.asked(q)
	if !is {
		return true
	}
	now, before := c.past[q.Name].at(at), c.past[q.Name].at(at-1)
	if x, is := puts(c.things[i]); is && !c.gave[i] && q.Name == c.names[i] && now.alike(x) {
		c.gave[i] = true
		return false
	}
	return before.version == 0 || !now.alike(before)
}

// unplaced is rule 4.
func unplaced(c *court, at int) bool {
	h := c.things[at]
	return confirmed(h) && c.position(h) == 0
}

// misplaced is rule 5.
func misplaced(c *court, at int) bool {
	h := c.things[at]
	if !confirmed(h) {
		return false
	}
	for _, other := range c.things {
		if confirmed(other) && h.Begin > other.End && c.position(h) <= c.position(other) {
			return true
		}
	}
	return false
}

// misread is rule 6.
func misread(c *court, at int) bool {
	h := c.things[at]
	if h.Kind != api.OpGet || !confirmed(h) {
		return false
	}
	x := c.has(at, c.position(h))
	if x.version != h.Version {
		return true
	}
	if h.Code == api.ErrNone {
		return x.version != 0 && !x.tomb
	}
	return x.version == 0 || x.tomb || !bytes.Equal(x.value, h.Value)
}

// misput is rule 7.
func misput(c *court, at int) bool {
	h := c.things[at]
	if !confirmed(h) {
		return false
	}
	position := c.position(h)
	if h.Code == api.ErrVersion {
		return h.Kind == api.OpPutIf && c.has(at, position).version == h.Want
	}
	if h.Code != api.OK {
		return false
	}
	q := c.order[position-1]
	if x, is := puts(h); is {
		now := c.has(at, position)
		return !c.effects[position-1] || q.Kind != api.ReqPut || q.Name != c.names[at] || q.Version != h.Version || !now.alike(x)
	}
	if h.Kind == api.OpRotate {
		return !c.effects[position-1] || q.Kind != api.ReqEpoch || q.Version != h.Version
	}
	return false
}
