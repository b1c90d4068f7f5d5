package pack

import (
	"bytes"
	"testing"

	"sealchain/api"
	"sealchain/num"
)

var (
	some  = api.Name{1, 31: 2}
	conf2 = api.Config{Num: 2, Full: 1, Chain: []int{11, 10}}
	put   = api.Req{Client: 1, Num: 300, Kind: api.ReqPut, Version: 5, Name: some, Env: []byte{7, 8}}
	ans   = api.Ans{Client: 2, Num: 1, Code: 2, Version: 9, Epoch: 255, Name: some, Env: []byte{3}}
)

// packets is one that may be of each kind, and more.
func packets() []api.Packet {
	votes := make([]api.Vote, 8)
	for i := range votes {
		votes[i] = api.Vote{Ballot: i + 1, Conf: conf2}
	}
	return []api.Packet{
		{Kind: api.PkReq, From: 21, To: 10, Req: put},
		{Kind: api.PkReq, From: 21, To: 13, Req: api.Req{Num: api.MaxNumber, Kind: api.ReqGet, Name: some}},
		{Kind: api.PkReq, From: 0, To: 0, Req: api.Req{Num: 1, Kind: api.ReqEpoch, Version: 255}},
		{Kind: api.PkAns, From: 11, To: 22, Ans: ans},
		{Kind: api.PkAns, From: 11, To: 22, Ans: api.Ans{Num: 1, Code: 3}},
		{Kind: api.PkPut, From: 10, To: 11, Num: 3, Seq: 7, Req: put},
		{Kind: api.PkAck, From: 11, To: 10, Num: 3, Seq: 200},
		{Kind: api.PkAck, From: 11, To: 10, Num: api.MaxNumber, Seq: api.MaxNumber - 1},
		{Kind: api.PkHave, From: 12, To: 11, Num: 300, Seq: -1},
		{Kind: api.PkState, From: 10, To: 11, Seq: 5, Bytes: []byte{1, 2, 3}},
		{Kind: api.PkState, From: 10, To: 11, Bytes: make([]byte, 32768)},
		{Kind: api.PkConf, From: 0, To: 20, Conf: conf2},
		{Kind: api.PkAlive, From: 10, To: 2, Ready: true},
		{Kind: api.PkAlive, From: 10, To: 2, Num: 8},
		{Kind: api.PkAsk, From: 20, To: 1},
		{Kind: api.PkPrep, From: 0, To: 1, Ballot: 3, Seq: 1},
		{Kind: api.PkProm, From: 1, To: 0, Ballot: 3, Seq: 1, Votes: votes},
		{Kind: api.PkProm, From: 1, To: 0},
		{Kind: api.PkAcc, From: 0, To: 1, Ballot: 3, Seq: 2, Conf: conf2},
		{Kind: api.PkYes, From: 1, To: 0, Ballot: 3, Seq: 2},
		{Kind: api.PkNo, From: 1, To: 0, Ballot: api.MaxNumber},
	}
}

// The chapter's examples.
func TestExamples(t *testing.T) {
	for i, c := range []struct {
		p    api.Packet
		want []byte
	}{
		{api.Packet{Kind: api.PkAck, From: 11, To: 10, Num: 3, Seq: 200}, []byte{4, 0x0B, 0x0A, 3, 0x81, 0x49}},
		{api.Packet{Kind: api.PkHave, From: 12, To: 11, Num: 300, Seq: -1}, []byte{5, 0x0C, 0x0B, 0x82, 0x2C, 0}},
		{api.Packet{Kind: api.PkAlive, From: 10, To: 2, Ready: true}, []byte{8, 0x0A, 2, 0, 1}},
	} {
		if b, e := Bytes(c.p); e != api.OK || !bytes.Equal(b, c.want) {
			t.Errorf("%d: %x %d", i, b, e)
		}
	}
	if b, e := BytesConf(conf2); e != api.OK || !bytes.Equal(b, []byte{2, 1, 2, 0x0B, 0x0A}) {
		t.Errorf("%x %d", b, e)
	}
	if Check(api.Packet{Kind: api.PkAsk, From: 20, To: 0, Num: 1}) != api.ErrArg {
		t.Error("PkAsk with Num")
	}
	if Check(api.Packet{Kind: api.PkConf, From: 0, To: 20, Conf: api.Config{Full: 1, Chain: []int{10, 10}}}) != api.ErrArg {
		t.Error("a replica twice")
	}
}

// P11.1: requests.
func TestCheckReq(t *testing.T) {
	with := func(change func(r *api.Req)) api.Req {
		r := put
		change(&r)
		return r
	}
	for i, r := range []api.Req{
		{}, {Kind: 1}, {Kind: 5, Num: 1}, {Kind: -1, Num: 1}, {Kind: 0, Num: 1},
		with(func(r *api.Req) { r.Client = 3 }),
		with(func(r *api.Req) { r.Client = -1 }),
		with(func(r *api.Req) { r.Num = 0 }),
		with(func(r *api.Req) { r.Num = api.MaxNumber + 1 }),
		with(func(r *api.Req) { r.Version = 0 }),
		with(func(r *api.Req) { r.Version = api.MaxNumber + 1 }),
		with(func(r *api.Req) { r.Env = nil }),
		with(func(r *api.Req) { r.Env = make([]byte, 1025) }),
		with(func(r *api.Req) { r.Kind = api.ReqGet }),
		{Num: 1, Kind: api.ReqGet, Version: 1},
		{Num: 1, Kind: api.ReqNext, Env: []byte{1}},
		{Num: 1, Kind: api.ReqEpoch},
		{Num: 1, Kind: api.ReqEpoch, Version: 256},
		{Num: 1, Kind: api.ReqEpoch, Version: 1, Name: some},
		{Num: 1, Kind: api.ReqEpoch, Version: 1, Env: []byte{1}},
	} {
		if b, e := BytesReq(r); CheckReq(r) != api.ErrArg || e != api.ErrArg || b != nil {
			t.Error(i)
		}
	}
	for i, r := range []api.Req{
		put, with(func(r *api.Req) { r.Env = make([]byte, 1024) }), with(func(r *api.Req) { r.Version, r.Env = 1, []byte{0} }),
		{Num: 1, Kind: api.ReqNext, Env: []byte{}}, {Num: 1, Kind: api.ReqEpoch, Version: 1},
	} {
		if CheckReq(r) != api.OK {
			t.Error(i)
		}
	}
	want, _ := num.Write().Num(1, 1).Count(300).Num(1, 2).Count(5).Raw(some[:]).Text([]byte{7, 8}).Bytes()
	if b, e := BytesReq(put); e != api.OK || !bytes.Equal(b, want) {
		t.Errorf("%x %d", b, e)
	}
}

// P11.1: answers and configurations.
func TestCheckParts(t *testing.T) {
	with := func(change func(a *api.Ans)) api.Ans {
		a := ans
		change(&a)
		return a
	}
	for i, a := range []api.Ans{
		{},
		with(func(a *api.Ans) { a.Client = 3 }),
		with(func(a *api.Ans) { a.Client = -1 }),
		with(func(a *api.Ans) { a.Num = 0 }),
		with(func(a *api.Ans) { a.Code = -1 }),
		with(func(a *api.Ans) { a.Code = 4 }),
		with(func(a *api.Ans) { a.Version = -1 }),
		with(func(a *api.Ans) { a.Version = api.MaxNumber + 1 }),
		with(func(a *api.Ans) { a.Epoch = -1 }),
		with(func(a *api.Ans) { a.Epoch = 256 }),
		with(func(a *api.Ans) { a.Env = make([]byte, 1025) }),
	} {
		if b, e := BytesAns(a); CheckAns(a) != api.ErrArg || e != api.ErrArg || b != nil {
			t.Error(i)
		}
	}
	if CheckAns(api.Ans{Num: 1}) != api.OK || CheckAns(with(func(a *api.Ans) { a.Env = make([]byte, 1024) })) != api.OK {
		t.Error("the least answer, and the longest one")
	}
	want, _ := num.Write().Num(1, 2).Count(1).Num(1, 2).Count(9).Num(1, 255).Raw(some[:]).Text([]byte{3}).Bytes()
	if b, e := BytesAns(ans); CheckAns(ans) != api.OK || e != api.OK || !bytes.Equal(b, want) {
		t.Errorf("%x %d", b, e)
	}
	for i, c := range []api.Config{
		{},
		{Full: 1},
		{Full: 0, Chain: []int{10}},
		{Full: 2, Chain: []int{10}},
		{Full: -1, Chain: []int{10}},
		{Num: -1, Full: 1, Chain: []int{10}},
		{Num: api.MaxNumber + 1, Full: 1, Chain: []int{10}},
		{Full: 1, Chain: []int{9}},
		{Full: 1, Chain: []int{14}},
		{Full: 1, Chain: []int{10, 11, 10}},
		{Full: 1, Chain: []int{10, 11, 12, 13, 10}},
	} {
		if b, e := BytesConf(c); CheckConf(c) != api.ErrArg || e != api.ErrArg || b != nil {
			t.Error(i)
		}
	}
	if CheckConf(api.Config{Num: api.MaxNumber, Full: 4, Chain: []int{13, 12, 11, 10}}) != api.OK {
		t.Error("the longest chain")
	}
}

// P11.1: each kind has its fields, and no others.
func TestCheckFields(t *testing.T) {
	set := map[int]func(p *api.Packet){
		hasNum:    func(p *api.Packet) { p.Num = 1 },
		hasSeq:    func(p *api.Packet) { p.Seq = 1 },
		hasBallot: func(p *api.Packet) { p.Ballot = 1 },
		hasReady:  func(p *api.Packet) { p.Ready = true },
		hasReq:    func(p *api.Packet) { p.Req = put },
		hasAns:    func(p *api.Packet) { p.Ans = ans },
		hasConf:   func(p *api.Packet) { p.Conf = conf2 },
		hasVotes:  func(p *api.Packet) { p.Votes = []api.Vote{{Ballot: 1, Conf: conf2}} },
		hasBytes:  func(p *api.Packet) { p.Bytes = []byte{1} },
	}
	for _, p := range packets() {
		if Check(p) != api.OK {
			t.Error(p.Kind)
		}
		for field, change := range set {
			q := p
			change(&q)
			want := api.OK
			if fieldsOf(p.Kind)&field == 0 {
				want = api.ErrArg
			}
			if b, e := Bytes(q); Check(q) != want || e != want || (b == nil) != (e != api.OK) {
				t.Error(p.Kind, field, e)
			}
		}
	}
	if Check(api.Packet{Kind: api.PkAsk, From: 20, Votes: []api.Vote{}, Bytes: []byte{}, Conf: api.Config{Chain: []int{}}}) != api.OK {
		t.Error("empty lists")
	}
}

// P11.1: packets that may not be.
func TestCheckInvalid(t *testing.T) {
	bad := []api.Packet{
		{}, {Kind: -1}, {Kind: 15}, {Kind: api.LastPk + 1}, {Kind: 0},
		{Kind: api.PkAsk, From: 3}, {Kind: api.PkAsk, From: -1}, {Kind: api.PkAsk, To: 14}, {Kind: api.PkAsk, To: 9},
		{Kind: api.PkAsk, To: 23}, {Kind: api.PkAsk, From: 19},
		{Kind: api.PkReq, From: 20}, {Kind: api.PkAns, To: 20}, {Kind: api.PkConf}, {Kind: api.PkAcc, Ballot: 1, Seq: 1},
		{Kind: api.PkAck, Num: -1}, {Kind: api.PkAck, Num: api.MaxNumber + 1}, {Kind: api.PkAck, Seq: -1}, {Kind: api.PkAck, Seq: api.MaxNumber},
		{Kind: api.PkHave, Seq: -2}, {Kind: api.PkHave, Seq: api.MaxNumber}, {Kind: api.PkNo, Ballot: -1}, {Kind: api.PkNo, Ballot: api.MaxNumber + 1},
		{Kind: api.PkState, Bytes: make([]byte, 32769)},
		{Kind: api.PkProm, Votes: make([]api.Vote, 9)},
		{Kind: api.PkProm, Votes: []api.Vote{{Ballot: 0, Conf: conf2}}},
		{Kind: api.PkProm, Votes: []api.Vote{{Ballot: 1}}},
	}
	for i, p := range bad {
		if b, e := Bytes(p); Check(p) != api.ErrArg || e != api.ErrArg || b != nil {
			t.Error(i, e)
		}
	}
}

// P11.2: parts that can't be parsed.
func TestParseParts(t *testing.T) {
	raw := func(w *num.Writer) []byte {
		b, _ := w.Bytes()
		return b
	}
	req := func(client, n, kind, version int, env []byte) *num.Writer {
		return num.Write().Num(1, client).Count(n).Num(1, kind).Count(version).Raw(some[:]).Text(env)
	}
	for i, c := range []struct {
		b    []byte
		want api.Errno
	}{
		{nil, api.ErrTrunc},
		{raw(req(1, 300, 2, 5, []byte{7, 8})), api.OK},
		{raw(req(1, 300, 2, 5, []byte{7, 8}).Num(1, 0)), api.ErrForm},
		{raw(req(1, 300, 2, 5, nil)), api.ErrForm},
		{raw(req(3, 300, 2, 5, []byte{7})), api.ErrForm},
		{raw(req(1, 300, 9, 5, []byte{7})), api.ErrForm},
		{raw(req(9, 0, 9, 5, make([]byte, 1025))), api.ErrLimit},
		{[]byte{1, 0x80}, api.ErrForm},
		{[]byte{1, 0x90, 0x80, 0x80, 0x80, 0x80, 0x80, 0x80, 0}, api.ErrRange},
	} {
		if r, e := ParseReq(c.b); e != c.want || e != api.OK && r.Num != 0 {
			t.Error(i, e)
		}
	}
	answer := func(code int, env []byte) *num.Writer {
		return num.Write().Num(1, 0).Count(1).Num(1, code).Count(5).Num(1, 3).Raw(some[:]).Text(env)
	}
	for i, c := range []struct {
		b    []byte
		want api.Errno
	}{
		{nil, api.ErrTrunc},
		{raw(answer(3, make([]byte, 1024))), api.OK},
		{raw(answer(3, make([]byte, 1025))), api.ErrLimit},
		{raw(answer(4, nil)), api.ErrForm},
		{raw(answer(3, nil).Num(1, 1)), api.ErrForm},
	} {
		if a, e := ParseAns(c.b); e != c.want || e != api.OK && a.Num != 0 {
			t.Error(i, e)
		}
	}
	for i, c := range []struct {
		b    []byte
		want api.Errno
	}{
		{nil, api.ErrTrunc},
		{[]byte{2, 1, 2, 11, 10}, api.OK},
		{[]byte{2, 1, 2, 11, 10, 12}, api.ErrForm},
		{[]byte{2, 1, 2, 11}, api.ErrTrunc},
		{[]byte{2, 1, 200, 10, 11, 12, 13}, api.ErrTrunc},
		{[]byte{2, 1, 200, 10, 11, 12, 13, 10}, api.ErrForm},
		{[]byte{2, 1, 5, 10, 11, 12, 13, 99}, api.ErrForm},
		{[]byte{2, 1, 0}, api.ErrForm},
		{[]byte{2, 3, 2, 11, 10}, api.ErrForm},
	} {
		if x, e := ParseConf(c.b); e != c.want || e != api.OK && (x.Num != 0 || x.Chain != nil) {
			t.Error(i, e)
		}
	}
}

// P11.2: packets that can't be parsed, and the first error.
func TestParseInvalid(t *testing.T) {
	raw := func(w *num.Writer) []byte {
		b, _ := w.Bytes()
		return b
	}
	head := func(kind int) *num.Writer { return num.Write().Num(1, kind).Num(1, 10).Num(1, 11) }
	votes := func(n int) *num.Writer {
		w := head(api.PkProm).Count(1).Count(1).Num(1, n)
		for range min(n, 9) {
			w.Count(1).Text([]byte{2, 1, 2, 11, 10})
		}
		return w
	}
	for i, c := range []struct {
		b    []byte
		want api.Errno
	}{
		{nil, api.ErrTrunc},
		{[]byte{99, 10}, api.ErrTrunc},
		{[]byte{99, 10, 11}, api.ErrForm},
		{[]byte{99, 10, 11, 12}, api.ErrForm},
		{[]byte{0, 10, 11}, api.ErrForm},
		{[]byte{9, 10, 11}, api.OK},
		{[]byte{9, 10, 11, 0}, api.ErrForm},
		{[]byte{9, 5, 11}, api.ErrForm},
		{[]byte{4, 5, 11}, api.ErrTrunc},
		{raw(head(api.PkAlive).Count(1).Num(1, 2)), api.ErrForm},
		{raw(head(api.PkAlive).Count(1).Num(1, 1)), api.OK},
		{raw(head(api.PkAlive).Count(1)), api.ErrTrunc},
		{raw(head(api.PkAck).Count(1).Count(0)), api.ErrForm},
		{raw(head(api.PkHave).Count(1).Count(0)), api.OK},
		{raw(head(api.PkAck).Count(1).Count(api.MaxNumber)), api.OK},
		{raw(head(api.PkAck).Raw([]byte{0x80})), api.ErrForm},
		{raw(head(api.PkReq).Text(make([]byte, 2049))), api.ErrLimit},
		{raw(head(api.PkReq).Text(make([]byte, 2048))), api.ErrForm},
		{raw(head(api.PkReq).Text(nil)), api.ErrTrunc},
		{raw(head(api.PkReq).Text([]byte{1, 0x80})), api.ErrForm},
		{raw(head(api.PkConf).Text([]byte{2, 1, 2, 11})), api.ErrTrunc},
		{raw(head(api.PkAcc).Count(1).Count(1).Text([]byte{2, 1, 2, 11})), api.ErrTrunc},
		{raw(head(api.PkAcc).Count(1)), api.ErrTrunc},
		{raw(head(api.PkAns).Text([]byte{0, 1})), api.ErrTrunc},
		{raw(head(api.PkState).Count(0).Count(1).Text(make([]byte, 32768))), api.OK},
		{raw(head(api.PkState).Count(0).Count(1).Text(make([]byte, 32769))), api.ErrLimit},
		{raw(votes(8)), api.OK},
		{raw(votes(9)), api.ErrForm},
		{raw(votes(200)), api.ErrForm},
		{raw(head(api.PkProm).Count(1).Count(1).Num(1, 200).Count(1).Text([]byte{2, 1, 2, 11, 10})), api.ErrTrunc},
		{raw(head(api.PkProm).Count(1).Count(1).Num(1, 2).Count(1).Text([]byte{2, 1, 2, 11}).Raw([]byte{0x80})), api.ErrTrunc},
		{raw(head(api.PkProm).Count(1).Count(1).Num(1, 1).Count(0).Text([]byte{2, 1, 2, 11, 10})), api.ErrForm},
	} {
		p, e := Parse(c.b)
		if e != c.want || e != api.OK && !Same(p, api.Packet{}) {
			t.Error(i, e)
		}
	}
	for _, p := range packets() {
		b, _ := Bytes(p)
		for n := range min(len(b), 300) {
			if _, e := Parse(b[:n]); e != api.ErrTrunc {
				t.Error(p.Kind, n, e)
			}
		}
	}
}

// P11.3: Same and Copy.
func TestSameCopy(t *testing.T) {
	all := packets()
	for i, p := range all {
		for j, q := range all {
			if Same(p, q) != (i == j) {
				t.Error(i, j)
			}
		}
		if !Same(p, Copy(p)) {
			t.Error(i)
		}
	}
	if !Same(api.Packet{Bytes: []byte{}, Votes: []api.Vote{}}, api.Packet{}) {
		t.Error("empty lists")
	}
	one := api.Packet{Votes: []api.Vote{{Ballot: 1, Conf: conf2}}}
	for i, v := range []api.Vote{{Ballot: 2, Conf: conf2}, {Ballot: 1, Conf: api.Config{Num: 2, Full: 1, Chain: []int{11}}}} {
		if Same(one, api.Packet{Votes: []api.Vote{v}}) {
			t.Error("votes", i)
		}
	}
	changes := []func(p *api.Packet){
		func(p *api.Packet) { p.Kind++ }, func(p *api.Packet) { p.From++ }, func(p *api.Packet) { p.To++ },
		func(p *api.Packet) { p.Num++ }, func(p *api.Packet) { p.Seq++ }, func(p *api.Packet) { p.Ballot++ },
		func(p *api.Packet) { p.Ready = true }, func(p *api.Packet) { p.Bytes = []byte{1} },
		func(p *api.Packet) { p.Req.Client++ }, func(p *api.Packet) { p.Req.Num++ }, func(p *api.Packet) { p.Req.Kind++ },
		func(p *api.Packet) { p.Req.Version++ }, func(p *api.Packet) { p.Req.Name[5]++ }, func(p *api.Packet) { p.Req.Env = []byte{0} },
		func(p *api.Packet) { p.Ans.Client++ }, func(p *api.Packet) { p.Ans.Num++ }, func(p *api.Packet) { p.Ans.Code++ },
		func(p *api.Packet) { p.Ans.Version++ }, func(p *api.Packet) { p.Ans.Epoch++ }, func(p *api.Packet) { p.Ans.Name[5]++ },
		func(p *api.Packet) { p.Ans.Env = []byte{0} }, func(p *api.Packet) { p.Conf.Num++ }, func(p *api.Packet) { p.Conf.Full++ },
		func(p *api.Packet) { p.Conf.Chain = []int{0} }, func(p *api.Packet) { p.Votes = []api.Vote{{}} },
	}
	for i, change := range changes {
		var p api.Packet
		change(&p)
		if Same(p, api.Packet{}) || !Same(p, Copy(p)) {
			t.Error(i)
		}
	}
}

// P11.4: memory.
func TestMemory(t *testing.T) {
	full := func() api.Packet {
		return api.Packet{
			Req: api.Req{Env: []byte{1}}, Ans: api.Ans{Env: []byte{2}}, Conf: api.Config{Chain: []int{3}},
			Votes: []api.Vote{{Ballot: 4, Conf: api.Config{Chain: []int{5}}}}, Bytes: []byte{6},
		}
	}
	p := full()
	c := Copy(p)
	c.Req.Env[0], c.Ans.Env[0], c.Conf.Chain[0], c.Votes[0].Conf.Chain[0], c.Bytes[0] = 0, 0, 0, 0, 0
	c.Votes[0].Ballot = 0
	if !Same(p, full()) {
		t.Error("Copy shares memory")
	}
	for _, p := range packets() {
		before := Copy(p)
		b, _ := Bytes(p)
		q, _ := Parse(b)
		clear(b)
		if !Same(p, before) || !Same(q, before) {
			t.Error(p.Kind)
		}
	}
}

// P11.5: one encoding a packet.
func TestRound(t *testing.T) {
	for _, p := range packets() {
		b, e := Bytes(p)
		q, f := Parse(b)
		if e != api.OK || f != api.OK || !Same(p, q) {
			t.Error(p.Kind, e, f)
		}
		if p.Kind == api.PkState && len(b) > 1000 {
			continue
		}
		for i := range b {
			for x := range 256 {
				c := bytes.Clone(b)
				c[i] = byte(x)
				q, e := Parse(c)
				if e != api.OK {
					continue
				}
				if again, e := Bytes(q); e != api.OK || !bytes.Equal(again, c) {
					t.Fatalf("%x", c)
				}
			}
		}
	}
}
