package sess

import (
	"bytes"
	"slices"
	"testing"

	"sealchain/api"
	"sealchain/pack"
)

var read = api.Req{Kind: api.ReqGet, Name: api.Name{7}}

func made(t *testing.T, client, first, limit, most int) *Sess {
	t.Helper()
	s, e := New(client, first, limit, most)
	if e != api.OK {
		t.Fatal(e)
	}
	return s
}

func conf(n int, chain ...int) api.Config { return api.Config{Num: n, Full: 1, Chain: chain} }

func told(client int, c api.Config) api.Packet {
	return api.Packet{Kind: api.PkConf, To: 20 + client, Conf: c}
}

func answer(client, n int) api.Packet {
	return api.Packet{Kind: api.PkAns, From: 10, To: 20 + client, Ans: api.Ans{Client: client, Num: n, Env: []byte{5}}}
}

func asks(client int) []api.Packet {
	var all []api.Packet
	for id := range 3 {
		all = append(all, api.Packet{Kind: api.PkAsk, From: 20 + client, To: id})
	}
	return all
}

func request(client, to, n int) api.Packet {
	r := read
	r.Client, r.Num = client, n
	return api.Packet{Kind: api.PkReq, From: 20 + client, To: to, Req: r}
}

func ticks(t *testing.T, s *Sess, want ...api.Packet) {
	t.Helper()
	if got := s.Tick(); !slices.EqualFunc(got, want, pack.Same) {
		t.Errorf("%v, not %v", got, want)
	}
}

// The chapter's examples.
func TestExamples(t *testing.T) {
	s := made(t, 1, 5, 3, 7)
	if n, e := s.Ask(read); n != 5 || e != api.OK {
		t.Error(n, e)
	}
	if n, e := s.Ask(read); n != 0 || e != api.ErrState {
		t.Error(n, e)
	}
	for range 3 {
		ticks(t, s, asks(1)...)
	}
	s.Take(told(1, conf(2, 11, 10)))
	ticks(t, s, request(1, 11, 5))
	ticks(t, s)
	ticks(t, s, append(asks(1), request(1, 11, 5))...)
	if _, is := s.Take(answer(1, 4)); is {
		t.Error("the answer to another request")
	}
	ticks(t, s)
	ticks(t, s)
	if !s.Late() || s.Waits() {
		t.Error(s.Late(), s.Waits())
	}
}

// Nil and zero sessions.
func TestNone(t *testing.T) {
	for _, s := range []*Sess{nil, {}} {
		if n, e := s.Ask(read); n != 0 || e != api.ErrNil {
			t.Error(e)
		}
		a, is := s.Take(answer(0, 0))
		if s.Tick() != nil || is || a.Env != nil || s.Waits() || s.Late() || s.Num() != 0 || s.Conf().Chain != nil {
			t.Error("is something")
		}
		s.Take(told(0, conf(1, 10)))
		if s.Conf().Num != 0 {
			t.Error("takes something")
		}
	}
}

// P20.1: New and Ask.
func TestAsk(t *testing.T) {
	for i, c := range [][4]int{
		{-1, 1, 1, 1}, {3, 1, 1, 1}, {0, 0, 1, 1}, {0, api.MaxNumber + 1, 1, 1}, {0, 1, 0, 1}, {0, 1, 1001, 1}, {0, 1, 1, 0}, {0, 1, 1, 100001},
	} {
		if s, e := New(c[0], c[1], c[2], c[3]); s != nil || e != api.ErrArg {
			t.Error(i, e)
		}
	}
	made(t, 0, 1, 1, 1)
	s := made(t, 2, api.MaxNumber, 1000, 100000)
	for i, r := range []api.Req{
		{}, {Kind: 9}, {Kind: api.ReqGet, Version: 1}, {Kind: api.ReqPut, Version: 1, Env: []byte{1}},
	} {
		if n, e := s.Ask(r); n != 0 || e != api.ErrArg || s.Waits() || s.Num() != 0 {
			t.Error(i, e)
		}
	}
	if n, e := s.Ask(api.Req{Client: 9, Num: -5, Kind: api.ReqNext}); n != api.MaxNumber || e != api.OK || !s.Waits() || s.Num() != api.MaxNumber {
		t.Error(n, e)
	}
	if n, e := s.Ask(api.Req{}); n != 0 || e != api.ErrState {
		t.Error(n, e)
	}
	s.Take(answer(2, api.MaxNumber))
	if n, e := s.Ask(api.Req{}); n != 0 || e != api.ErrLimit || s.Num() != api.MaxNumber {
		t.Error(n, e)
	}
}

// P20.2: Tick with a head, when the request was sent in the same tick.
func TestTick(t *testing.T) {
	s := made(t, 0, 1, 1, 4)
	ticks(t, s)
	s.Take(told(0, conf(0, 12)))
	ticks(t, s)
	s.Ask(read)
	ticks(t, s, append([]api.Packet{request(0, 12, 1)}, asks(0)...)...)
	ticks(t, s, append(asks(0), request(0, 12, 1))...)
	s.Take(told(0, conf(4, 13)))
	ticks(t, s, append([]api.Packet{request(0, 13, 1)}, asks(0)...)...)
	s.Take(told(0, conf(4, 11)))
	ticks(t, s, append(asks(0), request(0, 13, 1))...)
	if s.Late() || !s.Waits() {
		t.Error("late too early")
	}
	ticks(t, s)
	if !s.Late() || s.Waits() {
		t.Error("not late")
	}
	ticks(t, s)
	if n, e := s.Ask(read); n != 2 || e != api.OK || s.Late() {
		t.Error(n, e)
	}
	ticks(t, s, append([]api.Packet{request(0, 13, 2)}, asks(0)...)...)
}

// P20.3, P20.4: Take.
func TestTake(t *testing.T) {
	s := made(t, 1, 7, 5, 50)
	s.Take(told(0, conf(3, 10)))
	if s.Conf().Chain != nil {
		t.Error("for another node")
	}
	s.Take(told(1, conf(0, 10)))
	s.Take(told(1, conf(0, 11)))
	if c := s.Conf(); c.Num != 0 || !slices.Equal(c.Chain, []int{10}) || c.Full != 1 {
		t.Error(c)
	}
	if _, is := s.Take(answer(1, 0)); is {
		t.Error("no request was made")
	}
	s.Ask(read)
	for _, p := range []api.Packet{
		answer(1, 6), answer(1, 8), answer(0, 7),
		{Kind: api.PkAns, To: 21, Ans: api.Ans{Client: 0, Num: 7}},
		{Kind: api.PkAck, To: 21, Num: 9},
		{},
	} {
		if a, is := s.Take(p); is || a.Env != nil || !s.Waits() {
			t.Error(p)
		}
	}
	a, is := s.Take(answer(1, 7))
	if !is || a.Num != 7 || !bytes.Equal(a.Env, []byte{5}) || s.Waits() || s.Late() || s.Num() != 7 {
		t.Error(a, is)
	}
	if _, is := s.Take(answer(1, 7)); is {
		t.Error("twice")
	}
	s.Take(told(1, conf(9, 13, 12)))
	s.Take(told(1, conf(8, 11)))
	if s.Conf().Num != 9 {
		t.Error(s.Conf())
	}
}

// P20.5: memory.
func TestMemory(t *testing.T) {
	s := made(t, 0, 1, 1, 50)
	c := conf(1, 10)
	s.Take(told(0, c))
	c.Chain[0] = 13
	s.Conf().Chain[0] = 13
	env := make([]byte, 45)
	s.Ask(api.Req{Kind: api.ReqPut, Version: 1, Env: env})
	env[0] = 9
	out := s.Tick()
	out[0].Req.Env[0] = 9
	out = s.Tick()
	if out[3].To != 10 || out[3].Req.Env[0] != 0 {
		t.Error(out)
	}
	p := answer(0, 1)
	a, _ := s.Take(p)
	a.Env[0] = 9
	if p.Ans.Env[0] != 5 {
		t.Error("shared")
	}
}

// P20.6, P20.7: one answer a Num, growing configurations, and an end to waiting.
func TestWaiting(t *testing.T) {
	seed := uint32(3)
	next := func(n int) int {
		seed = seed*1664525 + 1013904223
		return int(seed>>8) % n
	}
	s := made(t, 0, 1, 3, 20)
	answered := map[int]bool{}
	waited := 0
	for range 5000 {
		before := s.Conf()
		switch next(4) {
		case 0:
			if _, e := s.Ask(read); e == api.OK {
				waited = 0
			}
		case 1:
			if next(6) > 0 {
				break
			}
			if a, is := s.Take(answer(0, s.Num()-next(2))); is {
				if answered[a.Num] {
					t.Fatal("answered twice")
				}
				answered[a.Num] = true
			}
		case 2:
			if next(30) == 0 {
				s.Take(told(0, conf(next(200), 10)))
			}
		default:
			was := s.Waits()
			out := s.Tick()
			if was {
				waited++
			}
			many := 0
			for _, p := range out {
				if p.Kind == api.PkAsk {
					many++
				}
			}
			if was && waited <= 20 && waited%3 == 0 && many != 3 || was && s.Waits() != (waited <= 20) {
				t.Fatal(waited, out)
			}
		}
		if s.Conf().Num < before.Num {
			t.Fatal("back")
		}
	}
}
