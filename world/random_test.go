package world

import (
	"bytes"
	"testing"

	"sealchain/api"
	"sealchain/chain"
	"sealchain/pack"
	"sealchain/table"
)

// chaos is a world to which random things happen, by a seed.
type chaos struct {
	t     *testing.T
	w     *World
	seed  uint32
	limit int
	order []api.Req
	confs map[int]api.Config
}

func (c *chaos) next(n int) int {
	c.seed = c.seed*1664525 + 1013904223
	return int(c.seed>>8) % n
}

func (c *chaos) node() int {
	all := c.w.Nodes()
	return all[c.next(len(all))]
}

func (c *chaos) deed() api.Deed {
	x := api.Deed{Kind: 1 + c.next(6)}
	if x.Kind < api.OpRotate {
		x.Key = []byte{byte('a' + c.next(4))}
	}
	if x.Kind == api.OpPut || x.Kind == api.OpPutIf {
		x.Value = bytes.Repeat([]byte{byte(c.next(250))}, c.next(100))
	}
	if x.Kind == api.OpPutIf {
		x.Want = c.next(8)
	}
	return x
}

// happen lets one thing happen.
func (c *chaos) happen() {
	w := c.w
	switch k := c.next(100); {
	case k < 8:
		w.Ask(c.next(3), c.deed())
	case k < 40:
		w.Tick(c.node())
	case k < 84:
		if w.Len() > 0 {
			w.Deliver(c.next(min(w.Len(), 1+c.next(40))))
		}
	case k < 88:
		w.Drop(c.next(20))
	case k < 91:
		w.Twice(c.next(20))
	case k < 93:
		w.Arm(c.node(), c.next(120))
	case k < 94:
		w.Crash(c.node(), c.next(120))
	case k < 98:
		w.Restart(c.node())
	default:
		w.Round()
	}
}

// check holds what there is against what there was, and against the order.
func (c *chaos) check() {
	order := c.w.order
	if len(order) < len(c.order) {
		c.t.Fatal("the order has shrunk")
	}
	for i, q := range c.order {
		if !pack.Same(api.Packet{Req: q}, api.Packet{Req: order[i]}) {
			c.t.Fatal("the order has changed")
		}
	}
	c.order = append(c.order, order[len(c.order):]...)
	for _, id := range c.w.Nodes() {
		x := c.w.Conf(id)
		if x.Chain == nil {
			continue
		}
		if known, is := c.confs[x.Num]; is && !same(known, x) {
			c.t.Fatal("two configurations of one number", known, x)
		}
		c.confs[x.Num] = x
	}
}

// checkTables holds all tables against the order: who knows only an older configuration may have entries that the order will never have.
func (c *chaos) checkTables() {
	newest := 0
	for n := range c.confs {
		newest = max(newest, n)
	}
	for id := 10; id < 14; id++ {
		m, is := c.w.replica(id)
		if !is || !m.up || !m.node.Has() {
			continue
		}
		r := m.node
		n, own := c.common(r)
		if n < min(r.Last(), len(c.order)) && r.Conf().Num == newest {
			c.t.Fatal("other entries than the order", id, n, r.Last(), len(c.order))
		}
		t := table.New()
		for _, q := range append(c.order[:n:n], own...) {
			t.Do(q)
		}
		if r.Base() <= len(c.order) && !bytes.Equal(t.Bytes(), r.Table()) {
			c.t.Fatal("a table is not the result of the order", id, r.Base(), r.Last(), len(c.order))
		}
	}
}

// common is up to where a replica has the order, and the entries that it has behind that.
func (c *chaos) common(r *chain.Replica) (int, []api.Req) {
	entries := r.Entries()
	for i, q := range entries {
		n := r.Base() + i
		if n >= len(c.order) || !pack.Same(api.Packet{Req: q}, api.Packet{Req: c.order[n]}) {
			return min(n, len(c.order)), entries[i:]
		}
	}
	return min(r.Last(), len(c.order)), nil
}

// checkHistory finds a request for each operation that was confirmed.
func (c *chaos) checkHistory() {
	for _, h := range c.w.History() {
		if h.End == 0 || h.Last == 0 || h.Code != api.OK && h.Code != api.ErrNone && h.Code != api.ErrVersion {
			continue
		}
		found := false
		for _, q := range c.order {
			found = found || q.Client == h.Client && q.Num >= h.First && q.Num <= h.Last
		}
		if !found {
			c.t.Fatalf("never executed: %+v", h)
		}
	}
}

// heals lets all be well, and all operations that are given then end in time.
func (c *chaos) heals() {
	w := c.w
	w.Heal(2000)
	first := len(w.History())
	for client := range 3 {
		if e := w.Ask(client, c.deed()); e != api.OK && e != api.ErrEpoch {
			c.t.Fatal(e)
		}
	}
	rounds := w.Heal(2000)
	if rounds > 30*c.limit+300 {
		c.t.Error("too many rounds", rounds)
	}
	for _, h := range w.History()[first:] {
		if h.End == 0 || h.Code == api.ErrTime {
			c.t.Errorf("not ended: %+v", h)
		}
	}
}

// P23.8, P23.9, P23.10, P23.11: whatever happens.
func TestChaos(t *testing.T) {
	done := 0
	for seed := range uint32(60) {
		replicas := 1 + int(seed)%4
		wished := 1 + int(seed/4)%replicas
		limit := 3 + int(seed)%3
		c := &chaos{t: t, w: made(t, replicas, wished, limit, seed%2 == 0), seed: seed * 7919, limit: limit, confs: map[int]api.Config{}}
		for range 6 {
			for range 500 {
				c.happen()
				c.check()
			}
			c.checkTables()
			c.heals()
			c.check()
			c.checkTables()
			c.checkHistory()
		}
		done += len(c.order)
	}
	if done < 1000 {
		t.Error("hardly anything was done", done)
	}
}
