package desk

import (
	"sealchain/api"
	"sealchain/pack"
	"sealchain/sweep"
	"sealchain/world"
)

const (
	mostRounds   = 100 // of a line rounds
	mostWash     = 600
	washPatience = 5
)

func (d *desk) create(a args) (string, api.Errno) {
	w, e := world.New(a.numbers[0], a.numbers[1], a.numbers[2], a.texts[0] == "ideal", []byte(a.texts[1]))
	if e != api.OK {
		return "", e
	}
	d.world, d.shown = w, map[int]int{}
	return "ok", api.OK
}

// ask lets a client do something with a key and a value.
func (d *desk) ask(kind int, a args, want int) (string, api.Errno) {
	x := api.Deed{Kind: kind, Want: want}
	if len(a.texts) > 0 {
		x.Key = []byte(a.texts[0])
	}
	if len(a.texts) > 1 {
		x.Value = []byte(a.texts[1])
	}
	return done(d.world.Ask(a.numbers[0], x))
}

func (d *desk) get(a args) (string, api.Errno)    { return d.ask(api.OpGet, a, 0) }
func (d *desk) remove(a args) (string, api.Errno) { return d.ask(api.OpDelete, a, 0) }
func (d *desk) put(a args) (string, api.Errno)    { return d.ask(api.OpPut, a, 0) }
func (d *desk) putIf(a args) (string, api.Errno)  { return d.ask(api.OpPutIf, a, a.numbers[1]) }
func (d *desk) rotate(a args) (string, api.Errno) { return d.ask(api.OpRotate, a, 0) }
func (d *desk) sweep(a args) (string, api.Errno)  { return d.ask(api.OpSweep, a, 0) }

func (d *desk) tick(a args) (string, api.Errno)    { return done(d.world.Tick(a.numbers[0])) }
func (d *desk) deliver(a args) (string, api.Errno) { return done(d.world.Deliver(a.numbers[0])) }
func (d *desk) drop(a args) (string, api.Errno)    { return done(d.world.Drop(a.numbers[0])) }
func (d *desk) twice(a args) (string, api.Errno)   { return done(d.world.Twice(a.numbers[0])) }
func (d *desk) restart(a args) (string, api.Errno) { return done(d.world.Restart(a.numbers[0])) }

func (d *desk) arm(a args) (string, api.Errno) {
	return done(d.world.Arm(a.numbers[0], a.numbers[1]))
}

func (d *desk) crash(a args) (string, api.Errno) {
	return done(d.world.Crash(a.numbers[0], a.numbers[1]))
}

func (d *desk) feed(a args) (string, api.Errno) {
	p, e := pack.Parse([]byte(a.texts[0]))
	if e != api.OK {
		return "", e
	}
	return done(d.world.Feed(p))
}

// pass lets rounds pass, if as many remain.
func (d *desk) pass(n int) (string, api.Errno) {
	if n > d.left {
		return "", api.ErrLimit
	}
	d.left -= n
	came := 0
	for range n {
		came += d.world.Round()
	}
	return phrase("came", came), api.OK
}

func (d *desk) round(a args) (string, api.Errno) { return d.pass(1) }

func (d *desk) rounds(a args) (string, api.Errno) {
	n := a.numbers[0]
	if n < 1 || n > mostRounds {
		return "", api.ErrArg
	}
	return d.pass(n)
}

func (d *desk) heal(a args) (string, api.Errno) {
	switch {
	case a.numbers[0] < 1:
		return "", api.ErrArg
	case d.left == 0:
		return "", api.ErrLimit
	}
	n := d.world.Heal(min(a.numbers[0], d.left))
	d.left -= n
	return phrase("rounds", n), api.OK
}

func (d *desk) wash(a args) (string, api.Errno) {
	client, most := a.numbers[0], a.numbers[1]
	switch {
	case most < 1 || most > mostWash:
		return "", api.ErrArg
	case client < 0 || client >= api.MaxClients:
		return "", api.ErrRange
	case !d.world.Up(api.Client0 + client):
		return "", api.ErrDown
	case d.world.Busy(client):
		return "", api.ErrState
	}
	// Nobody here knows where the client's cursor is: it may be anywhere.
	s, e := sweep.New(true, api.Name{1}, washPatience)
	if e != api.OK {
		return "", e
	}
	d.drive(s, client, most)
	switch s.Phase() {
	case api.SweepDone:
		return phrase("washed", s.Seen(), s.Sealed()), api.OK
	case api.SweepFailed:
		return phrase("failed", int(s.Why())), api.OK
	}
	return phrase("stopped", s.Phase()), api.OK
}

// drive lets a client do the operations of a sweep, as long as rounds remain.
func (d *desk) drive(s *sweep.Sweep, client, most int) {
	row := 0
	for rounds := 0; ; rounds++ {
		if !s.Waits() {
			x, e := s.Next()
			if e != api.OK || d.world.Ask(client, x) != api.OK {
				return
			}
			row = len(d.world.History()) - 1
		}
		if rounds == most || d.left == 0 {
			return
		}
		d.world.Round()
		d.left--
		if h := d.world.History()[row]; h.End != 0 {
			s.Took(api.Got{Code: h.Code, Version: h.Version, First: h.First, Last: h.Last})
		}
	}
}
