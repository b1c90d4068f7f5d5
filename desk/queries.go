package desk

import (
	"strings"

	"sealchain/api"
	"sealchain/judge"
	"sealchain/view"
)

const sumSize = 8 // bytes of a view's digest that are shown

// told shows the operations that have ended, each once.
func (d *desk) told(a args) (string, api.Errno) {
	var lines []string
	for i, h := range d.world.History() {
		if _, is := d.shown[i]; is || h.End == 0 {
			continue
		}
		d.shown[i] = h.End
		line := phrase("", h.Client, h.Num, h.Kind, int(h.Code), h.Version)
		if h.Kind == api.OpGet && h.Code == api.OK {
			line += " " + Quote(string(h.Value))
		}
		lines = append(lines, strings.TrimPrefix(line, " "))
	}
	if len(lines) == 0 {
		return "none", api.OK
	}
	return strings.Join(lines, "\n"), api.OK
}

// The kinds of nodes.
type (
	master  int
	replica int
	client  int
)

// kindOf is a node as what it is, nil if there is none.
func (d *desk) kindOf(node int) any {
	for _, n := range d.world.Nodes() {
		switch {
		case n != node:
		case n < api.Replica0:
			return master(n)
		case n < api.Client0:
			return replica(n)
		default:
			return client(n - api.Client0)
		}
	}
	return nil
}

func (d *desk) show(a args) (string, api.Errno) {
	node := a.numbers[0]
	kind := d.kindOf(node)
	if kind != nil && !d.world.Up(node) {
		return "down", api.OK
	}
	switch n := kind.(type) {
	case master:
		return "master " + written(d.world.Conf(node)), api.OK
	case replica:
		return phrase("replica "+written(d.world.Conf(node))+" last", d.world.Last(int(n))), api.OK
	case client:
		state := "idle"
		if d.world.Busy(int(n)) {
			state = "busy"
		}
		return phrase("client "+state+" epoch", d.world.Epoch(int(n))), api.OK
	}
	return "", api.ErrRange
}

// written is a configuration.
func written(c api.Config) string {
	return phrase("conf", c.Num) + phrase(" full", c.Full) + phrase(" chain", c.Chain...)
}

func (d *desk) order(a args) (string, api.Errno) {
	return phrase("order", len(d.world.Order())), api.OK
}

func (d *desk) bag(a args) (string, api.Errno) {
	return phrase("bag", d.world.Len()), api.OK
}

func (d *desk) packet(a args) (string, api.Errno) {
	p, e := d.world.At(a.numbers[0])
	if e != api.OK {
		return "", e
	}
	return phrase("packet", p.Kind, p.From, p.To), api.OK
}

func (d *desk) view(a args) (string, api.Errno) {
	v, e := view.Of(d.world.Rows())
	if e != api.OK {
		return "", e
	}
	text := phrase("view", v.Len()) + " "
	sum := v.Sum()
	for _, b := range sum[:sumSize] {
		text += string([]byte{hexDigits[b>>4], hexDigits[b&15]})
	}
	return text, api.OK
}

func (d *desk) many(a args) (string, api.Errno) {
	v, e := view.Of(d.world.Rows())
	if e != api.OK {
		return "", e
	}
	many := v.Many(a.numbers[0])
	return phrase("many", many[:]...), api.OK
}

func (d *desk) judge(a args) (string, api.Errno) {
	order := d.world.Order()
	rule, at := judge.Judge(d.world.Mode(), attributed(d.world.History(), order), order)
	if rule == 0 {
		return "fine", api.OK
	}
	return phrase("broken", rule, at), api.OK
}

// attributed is a history in which an operation that is under way has those requests that were executed for it:
// its row tells them only once it has ended, but they may have taken effect before.
func attributed(history []api.Hist, order []api.Req) []api.Hist {
	last := map[int]int{} // the last Num that belongs to an operation, by clients
	open := map[int]int{} // the operation under way, by clients
	for i, h := range history {
		last[h.Client] = max(last[h.Client], h.Last)
		open[h.Client] = i
	}
	for _, q := range order {
		i, is := open[q.Client]
		if !is || q.Num <= last[q.Client] || history[i].End != 0 {
			continue
		}
		h := &history[i]
		if h.First == 0 || q.Num < h.First {
			h.First = q.Num
		}
		h.Last = max(h.Last, q.Num)
	}
	return history
}
