package judge

import (
	"bytes"

	"sealchain/api"
	"sealchain/mode"
	"sealchain/seal"
)

// content is what a name has: none if the version is 0.
type content struct {
	version int
	value   []byte
	tomb    bool
}

// alike tells whether two have the same in them, whatever their versions are.
func (c content) alike(other content) bool {
	return c.tomb == other.tomb && bytes.Equal(c.value, other.value)
}

// Map is what there is, as it should be.
type Map struct {
	mode  *mode.Mode
	names map[api.Name]content
	epoch int
	last  map[int]int // the greatest Num of each client
}

// NewMap is an empty one.
func NewMap(m *mode.Mode) *Map {
	return &Map{mode: m, names: map[api.Name]content{}, last: map[int]int{}}
}

// noMode tells that a mode is nil or zero.
func noMode(m *mode.Mode) bool {
	_, e := m.Open(0, nil, nil)
	return e == api.ErrNil
}

// Do does a request.
func (x *Map) Do(r api.Req) (effect bool, e api.Errno) {
	if x == nil || noMode(x.mode) {
		return false, api.ErrNil
	}
	last, is := x.last[r.Client]
	if is && r.Num <= last {
		return false, api.OK
	}
	switch r.Kind {
	case api.ReqPut:
		effect, e = x.put(r)
	case api.ReqEpoch:
		effect = r.Version == x.epoch+1
		if effect {
			x.epoch = r.Version
		}
	}
	if e != api.OK {
		return false, e
	}
	x.last[r.Client] = r.Num
	return effect, api.OK
}

// put lets a name have the next version, if there is room for it.
func (x *Map) put(r api.Req) (bool, api.Errno) {
	old, is := x.names[r.Name]
	if r.Version != old.version+1 || !is && len(x.names) >= api.MaxNames {
		return false, api.OK
	}
	value, tomb, _, e := seal.Open(x.mode, r.Name, r.Version, r.Env)
	if e != api.OK {
		return false, api.ErrTamper
	}
	x.names[r.Name] = content{r.Version, value, tomb}
	return true, api.OK
}

// Get is what a name has.
func (x *Map) Get(name api.Name) (version int, value []byte, tomb bool) {
	if x == nil {
		return 0, nil, false
	}
	c := x.names[name]
	return c.version, bytes.Clone(c.value), c.tomb
}

// Epoch is the epoch.
func (x *Map) Epoch() int {
	if x == nil {
		return 0
	}
	return x.epoch
}

// Len is how many names there are.
func (x *Map) Len() int {
	if x == nil {
		return 0
	}
	return len(x.names)
}
