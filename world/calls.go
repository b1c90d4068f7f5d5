package world

import (
	"slices"

	"sealchain/api"
	"sealchain/net"
	"sealchain/pack"
)

// Ask tells a client to do something.
func (w *World) Ask(client int, x api.Deed) api.Errno {
	if e := w.begin(); e != api.OK {
		return e
	}
	m, is := w.client(client)
	switch {
	case !is:
		return api.ErrRange
	case !m.up:
		return api.ErrDown
	}
	if e := m.node.Ask(x); e != api.OK {
		if e == api.ErrDown {
			m.stop()
		}
		return e
	}
	w.history = append(w.history, api.Hist{
		Client: client, Num: w.asked(client) + 1, Kind: x.Kind,
		Key: slices.Clone(x.Key), Value: slices.Clone(x.Value), Want: x.Want, Begin: w.step,
	})
	w.settle(api.Client0+client, api.OK)
	return api.OK
}

// asked is how many operations a client was given.
func (w *World) asked(client int) int {
	many := 0
	for _, h := range w.history {
		if h.Client == client {
			many++
		}
	}
	return many
}

// Tick is a tick of a node.
func (w *World) Tick(node int) api.Errno {
	x, e := w.beginAt(node)
	if e != api.OK {
		return e
	}
	before := w.look(node)
	out, e := x.run().Tick()
	return w.after(node, before, nil, out, e)
}

// parcel is a packet, and what goes with it.
type parcel struct {
	packet api.Packet
	note   memory
}

// arrive lets a node that is up handle a packet.
func (w *World) arrive(p parcel) {
	x, e := w.upPart(p.packet.To)
	if e != api.OK {
		return
	}
	w.addRow(p.packet.To, api.RowCame, p.packet)
	before := w.look(p.packet.To)
	out, e := x.run().Handle(p.packet)
	w.after(p.packet.To, before, &p, out, e)
}

// take removes a packet from the net.
func (w *World) take(k int) (parcel, api.Errno) {
	p, e := w.net.Take(k)
	if e != api.OK {
		return parcel{}, e
	}
	note := w.notes[k]
	if k == 0 { // by far the most frequent one: nothing has to move
		w.notes[0] = nil
		w.notes = w.notes[1:]
	} else {
		w.notes = slices.Delete(w.notes, k, k+1)
	}
	return parcel{p, note}, api.OK
}

// Deliver lets a packet arrive.
func (w *World) Deliver(k int) api.Errno {
	if e := w.begin(); e != api.OK {
		return e
	}
	p, e := w.take(k)
	if e != api.OK {
		return e
	}
	w.arrive(p)
	return api.OK
}

// Drop lets a packet be lost.
func (w *World) Drop(k int) api.Errno {
	if e := w.begin(); e != api.OK {
		return e
	}
	_, e := w.take(k)
	return e
}

// Twice lets a packet be there once more.
func (w *World) Twice(k int) api.Errno {
	if e := w.begin(); e != api.OK {
		return e
	}
	if e := w.net.Twice(k); e != api.OK {
		return e
	}
	w.notes = append(w.notes, w.notes[k])
	return api.OK
}

// Feed lets a packet arrive at a client that no node has sent.
func (w *World) Feed(p api.Packet) api.Errno {
	if e := w.begin(); e != api.OK {
		return e
	}
	if _, is := w.client(p.To - api.Client0); !is || pack.Check(p) != api.OK {
		return api.ErrArg
	}
	w.arrive(parcel{packet: p})
	return api.OK
}

// Arm lets the disk of a node fail.
func (w *World) Arm(node, cut int) api.Errno {
	x, e := w.beginAt(node)
	if e != api.OK {
		return e
	}
	return x.storage().Arm(cut)
}

// Crash lets a node, and its disk, fail now.
func (w *World) Crash(node, cut int) api.Errno {
	x, e := w.beginAt(node)
	if e != api.OK {
		return e
	}
	if e := x.storage().Crash(cut); e != api.OK {
		return e
	}
	w.goDown(node)
	return api.OK
}

// Restart lets a node be up again.
func (w *World) Restart(node int) api.Errno {
	if e := w.begin(); e != api.OK {
		return e
	}
	x, is := w.part(node)
	switch {
	case !is:
		return api.ErrRange
	case x.isUp():
		return api.ErrState
	}
	x.storage().Revive()
	return x.start()
}

// Round lets all packets that are there arrive, and all nodes tick.
func (w *World) Round() int {
	if w.none() {
		return 0
	}
	many := w.net.Len()
	box, _ := net.NewBox[parcel](1)
	for range many {
		w.begin()
		// One at a time: what is taken too early would leave room for others.
		if p, e := w.take(0); e == api.OK {
			box.Put(p)
		}
		if p, is := box.Take(); is {
			w.arrive(p)
		}
	}
	for _, id := range w.Nodes() {
		if w.Up(id) {
			w.Tick(id)
		}
	}
	return many
}

// Heal lets all be up, and rounds pass until no client is busy.
func (w *World) Heal(most int) int {
	if w.none() {
		return 0
	}
	for _, id := range w.Nodes() {
		x, _ := w.part(id)
		x.storage().Revive()
		if !x.isUp() {
			w.Restart(id)
		}
	}
	rounds := 0
	for w.anyBusy() && rounds < most && rounds < mostRounds {
		w.Round()
		rounds++
	}
	return rounds
}

// anyBusy tells whether some client is.
func (w *World) anyBusy() bool {
	for i := range len(w.clients) {
		if w.Busy(i) {
			return true
		}
	}
	return false
}
