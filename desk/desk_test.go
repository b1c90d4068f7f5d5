package desk

import (
	"strconv"
	"strings"
	"testing"

	"sealchain/api"
	"sealchain/mode"
	"sealchain/num"
	"sealchain/pack"
	"sealchain/seal"
	"sealchain/sha"
	"sealchain/tape"
)

// runs compares a script's output, both as lines separated by "; ".
func runs(t *testing.T, script, want string) {
	t.Helper()
	out, e := Run(strings.ReplaceAll(script, "; ", "\n"))
	if got := strings.ReplaceAll(strings.TrimSuffix(out, "\n"), "\n", "; "); e != api.OK || got != want {
		t.Errorf("%s:\n%s, not\n%s (%d)", script, got, want, e)
	}
}

// The chapter's examples, and those of DOC.md.
func TestExamples(t *testing.T) {
	runs(t, `world 1 1 5 real "s"; put 0 k "a b"; rounds 5; told; order; judge; get 1 "k"; heal 50; told; show 10; show 20; get 9 k; get 0; tick 5; "x; bag x`,
		`ok; ok; came 26; 0 1 2 0 1; order 1; fine; ok; rounds 5; 1 1 1 0 1 "a b"; replica conf 0 full 1 chain 10 last 2; client idle epoch 0; ! 9; ! 4; ! 9; ! 4; ! 4`)
	runs(t, `bag; world 0 1 3 real s; world 1 1 3 real s; bag`, `! 170; ! 2; ok; bag 0`)
	runs(t, `world 1 1 5 real "s"; put 0 k "a b"; rounds 5; told; told; order; judge`, `ok; ok; came 26; 0 1 2 0 1; none; order 1; fine`)
	runs(t, `world 1 1 5 ideal s; get 0 k; heal 50; told`, `ok; ok; rounds 5; 0 1 1 210 0`)
	runs(t, `world 2 2 5 real s; show 0; show 11; show 12; show 21`,
		`ok; master conf 0 full 2 chain 10 11; replica conf 0 full 2 chain 10 11 last 0; ! 9; client idle epoch 0`)
	runs(t, `world 1 1 5 real s; crash 10 0; crash 10 0; show 10; restart 10; restart 10; tick 13`, `ok; ok; ! 190; down; ok; ! 170; ! 9`)
	runs(t, `world 1 1 5 real s; round; bag; packet 0; packet 3; many 10`, `ok; came 0; bag 3; packet 8 10 0; ! 9; many 0 3 0`)
	runs(t, `world 1 1 5 real s; delete 0 k; heal 50; get 1 k; heal 50; told`, `ok; ok; rounds 5; ok; rounds 5; 0 1 3 0 1; 1 1 1 210 1`)
	runs(t, `world 1 1 5 real s; rotate 2; heal 50; show 22; told`, `ok; ok; rounds 5; client idle epoch 1; 2 1 5 0 1`)
	runs(t, "put 0 k; \"k; # x; world 1 1 5 other s; round 1", `! 4; ! 4; ! 4; ! 4`)
	runs(t, `world 1 1 5 real s; put 0 k v; putif 0 k w 1; heal 50; putif 0 k w 0; heal 50; putif 0 k w 1; heal 50; told`,
		`ok; ok; ! 170; rounds 5; ok; rounds 3; ok; rounds 3; 0 1 2 0 1; 0 2 4 211 1; 0 3 4 0 2`)
}

// P26.1: limits of a script, and its last line.
func TestRun(t *testing.T) {
	for script, want := range map[string]string{
		"":                               "",
		"\n":                             "",
		"bag":                            "! 170\n",
		"bag\n":                          "! 170\n",
		"bag\n\n \nbag":                  "! 170\n! 170\n",
		strings.Repeat("\n", 1024):       "",
		strings.Repeat("x\n", 1024):      strings.Repeat("! 4\n", 1024),
		"#" + strings.Repeat(" ", 65535): "",
	} {
		if out, e := Run(script); out != want || e != api.OK {
			t.Errorf("%.20q: %.20q %d", script, out, e)
		}
	}
	for _, script := range []string{strings.Repeat("\n", 1025), strings.Repeat("\n", 1024) + "x", strings.Repeat(" ", 65537)} {
		if out, e := Run(script); out != "" || e != api.ErrLimit {
			t.Errorf("%.20q %d", out, e)
		}
	}
}

// P26.1: lines that are none, and lines before a world.
func TestForm(t *testing.T) {
	lines := map[string]string{
		"world": "1 1 5 real s", "get": "0 k", "delete": "0 k", "put": "0 k v", "putif": "0 k v 1", "rotate": "0", "sweep": "0",
		"tick": "0", "deliver": "0", "drop": "0", "twice": "0", "restart": "0", "arm": "0 1", "crash": "0 1", "feed": "x",
		"round": "", "rounds": "1", "heal": "1", "wash": "0 1", "told": "", "show": "0", "order": "", "bag": "", "packet": "0",
		"view": "", "many": "0", "judge": "",
	}
	if len(lines) != len(commands()) {
		t.Error(len(commands()))
	}
	for first, rest := range lines {
		line := strings.TrimSpace(first + " " + rest)
		if first != "world" {
			runs(t, line, "! 170")
		}
		runs(t, line+" 7", "! 4")
		runs(t, `"`+first+`" `+rest, "! 4")
		runs(t, strings.ToUpper(line), "! 4")
		if i := strings.LastIndex(line, " "); i > 0 {
			runs(t, line[:i], "! 4")
		}
		if c := commands()[first]; strings.HasPrefix(c.form, "n") {
			for _, bad := range []string{"x", "1x", "01", "-0", "-", "+1", "1234567890", `"1"`, `""`, "1.0", "--1"} {
				words := strings.Fields(line)
				words[1] = bad
				runs(t, strings.Join(words, " "), "! 4")
			}
		}
	}
	runs(t, `world 1 1 5 "real" s; world 1 1 5 Real s; world 1 1 x real s; frog; world 1 1 1000 ideal ""; bag`, "! 4; ! 4; ! 4; ! 4; ok; bag 0")
	runs(t, "wash 0 0; heal 0; rounds 0; feed x", "! 170; ! 170; ! 170; ! 170")
}

// P26.2: splitting.
func TestSplit(t *testing.T) {
	for line, want := range map[string][]string{
		"":                           nil,
		"   ":                        nil,
		"#":                          nil,
		"  # \"x \x01\xff":           nil,
		"a":                          {"a"},
		"  a  b ":                    {"a", "b"},
		"a #b":                       {"a", "#b"},
		"a\\n \\":                    {"a\\n", "\\"},
		`""`:                         {""},
		`"" ""`:                      {"", ""},
		`"a b" c`:                    {"a b", "c"},
		`"\"\\\n\x00\xff\x0a"`:       {"\"\\\n\x00\xff\n"},
		`"#" b`:                      {"#", "b"},
		"!#$%&'()*+,-./09:;<=>?@AZ[": {"!#$%&'()*+,-./09:;<=>?@AZ["},
		"]^_`az{|}~":                 {"]^_`az{|}~"},
	} {
		words, e := Split(line)
		if e != api.OK || strings.Join(words, "|") != strings.Join(want, "|") || len(words) != len(want) {
			t.Errorf("%q: %q %d", line, words, e)
		}
	}
	for _, line := range []string{
		`"`, `"a`, `a"`, `a"b"`, `"a"b`, `"a""b"`, `"\`, `"\"`, `"\t"`, `"\x"`, `"\x0"`, `"\x0g"`, `"\xA0"`, `"\X00"`, `"\N"`,
		"a\tb", "\t", "a\n", "\x7f", "é", "a\xff", "\"\x7f\"", "\"\n\"", "\"é\"", "\xff", "b \x00", "\"a\" \x01",
	} {
		if words, e := Split(line); words != nil || e != api.ErrForm {
			t.Errorf("%q: %q %d", line, words, e)
		}
	}
}

// P26.2, P26.3: quoting, and splitting again.
func TestQuote(t *testing.T) {
	if q := Quote("a b\"\\\n\x00\x7f\xff~"); q != `"a b\"\\\n\x00\x7f\xff~"` {
		t.Error(q)
	}
	all := make([]byte, 256)
	for i := range all {
		all[i] = byte(i)
	}
	for _, w := range []string{"", "a", "é", "#", " ", string(all)} {
		if words, e := Split(Quote(w)); e != api.OK || len(words) != 1 || words[0] != w {
			t.Errorf("%q: %q %d", w, words, e)
		}
	}
	for _, line := range []string{`a  "b c" \ "\x00"`, `"#" #`, "x"} {
		words, _ := Split(line)
		var quoted []string
		for _, w := range words {
			quoted = append(quoted, Quote(w))
		}
		again, e := Split(strings.Join(quoted, " "))
		if e != api.OK || strings.Join(again, "|") != strings.Join(words, "|") {
			t.Errorf("%q: %q", line, again)
		}
	}
}

// P26.1: rounds, and how many remain.
func TestRounds(t *testing.T) {
	runs(t, `world 1 1 5 real s; rounds 0; rounds 101; rounds -1; heal 0; heal -1; heal 5; round; round`,
		`ok; ! 2; ! 2; ! 2; ! 2; ! 2; rounds 0; came 0; came 3`)
	hundred := strings.Repeat("; rounds 100", 5)
	runs(t, `world 1 1 5 real s`+hundred+`; world 1 1 5 real s; rounds 99; rounds 2; round; round; rounds 1; heal 1; rounds 101; heal 0`,
		`ok; came 297; came 300; came 300; came 300; came 300; ok; came 294; ! 5; came 3; ! 5; ! 5; ! 5; ! 2; ! 2`)
	runs(t, `world 1 1 5 real s; get 0 k; heal 100`+hundred+`; rounds 96; rounds 95; round`,
		`ok; ok; rounds 5; came 300; came 300; came 300; came 300; came 300; ! 5; came 285; ! 5`)
	// A chain without its only replica: a client waits in vain.
	runs(t, `world 1 1 5 real s; get 0 k; crash 10 0; heal 999; told; put 0 k v; crash 20 0; heal 600; heal 600`,
		`ok; ok; ok; rounds 5; 0 1 1 210 0; ok; ok; rounds 0; rounds 0`)
}

// P26.1: wash.
func TestWash(t *testing.T) {
	runs(t, `world 1 1 5 real s; wash 3 0; wash 3 601; wash 3 5; wash -1 5; crash 20 0; wash 0 5; get 1 k; wash 1 5; heal 9; wash 1 600; told; show 21`,
		`ok; ! 2; ! 2; ! 9; ! 9; ok; ! 190; ok; ! 170; rounds 5; washed 0 0; 1 1 1 210 0; 1 2 5 0 1; 1 3 6 210 0; 1 4 6 210 0; client idle epoch 1`)
	runs(t, `world 1 1 5 ideal s; put 0 a x; put 1 b y; delete 2 c; heal 50; wash 0 600; wash 0 600; get 1 b; heal 50; judge`,
		`ok; ok; ok; ok; rounds 5; washed 3 0; washed 3 0; ok; rounds 3; fine`)
	runs(t, `world 1 1 5 real s; wash 0 2; show 20; wash 0 2; crash 10 0; rounds 9; show 20; wash 1 3; show 21`,
		`ok; stopped 1; client busy epoch 0; ! 170; ok; came 24; client busy epoch 0; stopped 1; client busy epoch 0`)
	runs(t, `world 1 1 5 real s; wash 0 1; heal 5; wash 0 -1`, `ok; stopped 1; rounds 4; ! 2`)
	root := sha.Sum([]byte("s"))
	m, _ := mode.Real(root[:])
	name, _ := m.Name([]byte("k"))
	env, e := seal.Seal(m, tape.New(nil), name, 5, 0, nil, false)
	b, f := pack.Bytes(api.Packet{Kind: api.PkAns, From: 10, To: 20, Ans: api.Ans{Num: 1<<20 + 1, Version: 5, Name: name, Env: env}})
	if e != api.OK || f != api.OK {
		t.Fatal(e, f)
	}
	runs(t, `world 1 1 5 real s; put 1 k v; heal 50; get 0 k; feed `+Quote(string(b))+`; wash 0 50; told`,
		`ok; ok; rounds 5; ok; ok; failed 100; 1 1 2 0 1; 0 1 1 0 5 ""; 0 2 5 0 1; 0 3 6 100 0`)
	runs(t, `world 1 1 5 real s; arm 20 0; wash 0 10; show 20`, `ok; ok; stopped 1; down`)
	runs(t, `world 1 1 5 real s`+strings.Repeat("; rounds 100", 6)+`; wash 0 10; show 20`,
		`ok; came 297; came 300; came 300; came 300; came 300; came 300; stopped 1; client busy epoch 0`)
}

// P26.1: what is fed, and broken then.
func TestFeed(t *testing.T) {
	b, e := pack.Bytes(api.Packet{Kind: api.PkConf, From: 0, To: 20, Conf: api.Config{Full: 1, Chain: []int{10}}})
	if e != api.OK {
		t.Fatal(e)
	}
	ask, _ := pack.Bytes(api.Packet{Kind: api.PkAsk, From: 20, To: 0})
	none, _ := pack.Bytes(api.Packet{Kind: api.PkAns, From: 10, To: 20, Ans: api.Ans{Num: 1<<20 + 2, Code: api.AnsNone}})
	bad, _ := num.Write().Num(1, 99).Num(1, 1).Num(1, 1).Bytes()
	runs(t, `world 1 1 5 real s; feed `+Quote(string(ask))+`; feed x; feed `+Quote(string(bad))+`; feed `+Quote(string(b))+`; put 0 k v; round; bag`,
		`ok; ! 2; ! 3; ! 4; ok; ok; came 0; bag 4`)
	// An answer that no chain has given: the client believes that there is nothing, though it could know.
	runs(t, `world 1 1 5 real s; put 1 k v; heal 50; put 0 j v; heal 50; get 0 k; feed `+Quote(string(none))+`; judge; heal 50; told; judge`,
		`ok; ok; rounds 5; ok; rounds 5; ok; ok; broken 4 2; rounds 0; 1 1 2 0 1; 0 1 2 0 1; 0 2 1 210 0; broken 4 2`)
}

// P26.1: what is shown.
func TestShow(t *testing.T) {
	runs(t, `world 2 1 5 real s; show 3; show 9; show 13; show 23; show -1; show 2; show 11; put 0 k v; show 20; crash 2 0; show 2; deliver 0; drop -1; twice 9; many 99; many 20; order; arm 10 -1; crash 11 -1; arm 2 0; restart 2`,
		`ok; ! 9; ! 9; ! 9; ! 9; ! 9; master conf 0 full 1 chain 10; replica conf 0 full 1 chain 10 last 0; ok; client busy epoch 0; ok; down; ! 9; ! 9; ! 9; many 0 0 0; many 0 0 0; order 0; ! 2; ! 2; ! 190; ok`)
	runs(t, `world 1 1 5 real s; put 0 "" v; get 0 01234567890123456; put 0 k `+strings.Repeat("v", 251)+`; putif 0 k v -1; rotate 3; sweep 1; sweep 1; heal 9; told`,
		`ok; ! 2; ! 2; ! 70; ! 2; ! 9; ok; ! 170; rounds 5; 1 1 6 210 0`)
	runs(t, `world 4 4 5 real s`+strings.Repeat("; rounds 100", 6)+`; view; many 0; bag`,
		`ok; came 1779; came 1800; came 1800; came 1800; came 1800; came 1800; ! 5; ! 5; bag 18`)
	runs(t, `world 1 1 5 real s; view; tick 10; view; tick 0; twice 0; deliver 0; deliver 0; many 0`,
		`ok; view 0 6e340b9cffb37a98; ok; view 3 6ab2eb2df7d2ac3e; ok; ok; ok; ok; many 1 0 0`)
}

// P26.4: the output of a script is that of its lines.
func TestPrefix(t *testing.T) {
	lines := strings.Split(`world 2 2 3 ideal s; put 0 k v; rounds 3; "; # x; arm 11 5; get 1 k; heal 70; told; view; judge; show 11`, "; ")
	var outs []string
	for n := range len(lines) + 1 {
		out, _ := Run(strings.Join(lines[:n], "\n"))
		outs = append(outs, out)
		if n > 0 && !strings.HasPrefix(out, outs[n-1]) {
			t.Error(n, out)
		}
	}
}

// script is a random one, about some keys and values.
func script(seed uint32, mode string, limit int, keys, values []string, extra ...string) string {
	next := func(n int) int {
		seed = seed*1664525 + 1013904223
		return int(seed>>8) % n
	}
	replicas := 1 + next(4)
	out := phrase("world", replicas, 1+next(replicas), limit) + " " + mode + " " + phrase("s", next(100))[:2] + "\n"
	nodes := []int{0, 1, 2, 10, 11, 12, 13, 20, 21, 22}
	for range 150 {
		key, value, client := Quote(keys[next(len(keys))]), Quote(values[next(len(values))]), next(3)
		line := ""
		switch next(16) {
		case 0, 1:
			line = phrase("get", client) + " " + key
		case 2, 3:
			line = phrase("put", client) + " " + key + " " + value
		case 4:
			line = phrase("putif", client) + " " + key + " " + value + phrase("", next(5))
		case 5:
			line = phrase("delete", client) + " " + key
		case 6:
			line = phrase("sweep", client)
		case 7:
			line = phrase("rotate", client)
		case 8:
			line = phrase("arm", nodes[next(10)], next(80))
		case 9:
			line = phrase("crash", nodes[next(10)], next(80))
		case 10:
			line = phrase("restart", nodes[next(10)])
		case 11:
			line = phrase("twice", next(20)) + "\n" + phrase("drop", next(20))
		case 12:
			line = phrase("heal", 1+next(5))
		default:
			line = phrase("rounds", 1+next(5))
		}
		out += line + "\n"
		if len(extra) > 0 && next(10) == 0 {
			out += extra[next(len(extra))] + "\n"
		}
	}
	return out
}

// P26.5: without lies nothing is ever broken, not even while something is under way.
func TestFine(t *testing.T) {
	runs(t, `world 1 1 5 real s; put 0 k v; rounds 4; order; told; judge`, `ok; ok; came 22; order 1; none; fine`)
	for seed := range uint32(40) {
		out, e := Run(script(seed*101, "real", 3, []string{"a", "b"}, []string{"x", "y", ""}, "judge", "told") + "heal 600\ntold\njudge\n")
		if e != api.OK || strings.Contains(out, "broken") || !strings.HasSuffix(out, "fine\n") {
			t.Error(seed, e)
		}
	}
}

// P26.5: what is under way has the requests behind those that belong to other operations.
func TestAttributed(t *testing.T) {
	history := []api.Hist{
		{Client: 0, Begin: 1, End: 2, First: 1, Last: 2},
		{Client: 1, Begin: 1, End: 2, First: 1, Last: 1},
		{Client: 0, Begin: 3},
		{Client: 2, Begin: 3, First: 5, Last: 6},
	}
	var order []api.Req
	for _, q := range [][2]int{{0, 1}, {0, 2}, {1, 1}, {0, 4}, {0, 3}, {1, 2}, {2, 5}, {2, 6}} {
		order = append(order, api.Req{Client: q[0], Num: q[1]})
	}
	want := [][2]int{{1, 2}, {1, 1}, {3, 4}, {5, 6}}
	for i, h := range attributed(history, order) {
		if h.First != want[i][0] || h.Last != want[i][1] {
			t.Error(i, h.First, h.Last)
		}
	}
	if h := attributed([]api.Hist{{Client: 0, Begin: 1}}, nil)[0]; h.First != 0 || h.Last != 0 {
		t.Error(h)
	}
}

// P26.6: views do not depend on keys and values.
func TestBlind(t *testing.T) {
	views := func(script string) string {
		out, e := Run(script)
		if e != api.OK {
			t.Fatal(e)
		}
		var all []string
		for _, line := range strings.Split(out, "\n") {
			if strings.HasPrefix(line, "view") {
				all = append(all, line)
			}
		}
		return strings.Join(all, "\n")
	}
	for seed := range uint32(20) {
		one := views(script(seed*7, "ideal", 4, []string{"a", "b", "c"}, []string{"x", "a value of more than 13 bytes"}, "view", "wash 1 20"))
		two := views(script(seed*7, "ideal", 4, []string{"k1", "k\x00", "0123456789abcdef"}, []string{"0123456789abc", strings.Repeat("\x01", 61)}, "view", "wash 1 20"))
		if one != two || len(one) == 0 {
			t.Error(seed)
		}
	}
}

// P26.7: after heal 600 no client is busy, and a wash sees each key once.
func TestHeal(t *testing.T) {
	for seed := range uint32(30) {
		limit := 3 + int(seed)%3
		text := script(seed*13, "real", limit, []string{"a", "b"}, []string{"x"})
		var kept []string
		for _, line := range strings.Split(text, "\n") {
			if !strings.HasPrefix(line, "round") && !strings.HasPrefix(line, "heal") {
				kept = append(kept, line)
			}
		}
		out, e := Run(strings.Join(kept, "\n") + "heal 600\nshow 20\nshow 21\nshow 22\n")
		if e != api.OK || strings.Contains(out, "busy") || strings.Count(out, "idle") != 3 {
			t.Error(seed, out)
		}
	}
	for n := range 20 {
		text := "world 3 2 5 ideal s\n"
		for i := range n {
			text += phrase("put", i%3) + " k" + strconv.Itoa(i) + " v\nheal 50\n"
		}
		out, _ := Run(text + "wash 1 600\n")
		if !strings.Contains(out, "washed "+strconv.Itoa(n)+" ") {
			t.Error(n, out)
		}
	}
}
