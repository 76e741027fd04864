package tests

import (
	"slices"
	"strings"
	"testing"

	"loop.example/g00313/impl"
)

// kindRule says which fields an op of that word has: the place in the list,
// and one more, is the Kind.
type kindRule struct {
	word       string
	n, m, text bool
}

var kindRules = []kindRule{
	{"run", true, false, false},
	{"sleep", true, false, false},
	{"wait", true, true, false},
	{"signal", true, false, false},
	{"set", true, false, false},
	{"reset", true, false, false},
	{"await", true, true, false},
	{"send", true, true, true},
	{"take", true, true, false},
	{"show", true, false, true},
	{"clear", true, false, false},
	{"read", true, true, false},
	{"write", true, false, true},
	{"fetch", true, false, false},
	{"start", true, false, false},
	{"stop", true, false, false},
	{"loop", false, false, false},
}

func op(kind, n, m int64, text string) impl.Op {
	return impl.Op{Kind: kind, N: n, M: m, Text: text}
}

// ruledRight is OpOk as the rules' table has it.
func ruledRight(o impl.Op) bool {
	if o.Kind < 1 || o.Kind > int64(len(kindRules)) {
		return false
	}
	r := kindRules[o.Kind-1]
	nOk := r.n && o.N >= 1 && o.N <= 1000 || !r.n && o.N == 0
	mOk := r.m && o.M >= -1 && o.M <= 1000 || !r.m && o.M == 0
	textOk := r.text && len(o.Text) <= 20 || !r.text && o.Text == ""
	for _, b := range []byte(o.Text) {
		textOk = textOk && b >= ' ' && b <= '~' && b != ';'
	}
	return nOk && mOk && textOk
}

func rolledOp(d *dice) impl.Op {
	kind := 1 + d.below(int64(len(kindRules)))
	r := kindRules[kind-1]
	o := impl.Op{Kind: kind}
	if r.n {
		o.N = 1 + d.below(1000)
	}
	if r.m {
		o.M = d.below(1002) - 1
	}
	if r.text {
		for range d.below(21) {
			o.Text += string(" ab~09-:"[d.below(8)])
		}
	}
	return o
}

func rolledProg(d *dice) []impl.Op {
	var l []impl.Op
	for range 1 + d.below(20) {
		l = append(l, rolledOp(d))
	}
	return l
}

var edgeTexts = []string{
	"", " ", "  ", "x", " x", "x ", "hi there", "~", "!", "1", "-1", "loop", ":", "0123456789abcdefghij", "                    ",
	"0123456789abcdefghijk", "                     ", ";", "a;b", "\x1f", "\x7f", "\n", "\x00", "\xff", "é", "世",
}

func TestKinds(t *testing.T) {
	kinds := []int64{
		impl.OpRun, impl.OpSleep, impl.OpWait, impl.OpSignal, impl.OpSet, impl.OpReset, impl.OpAwait, impl.OpSend, impl.OpTake,
		impl.OpShow, impl.OpClear, impl.OpRead, impl.OpWrite, impl.OpFetch, impl.OpStart, impl.OpStop, impl.OpLoop,
	}
	for i, kind := range kinds {
		o := op(kind, 0, 0, "")
		want := kindRules[i].word
		if kindRules[i].n {
			o.N, want = 1000, want+" 1000"
		}
		if kindRules[i].m {
			o.M, want = -1, want+" -1"
		}
		if kindRules[i].text {
			o.Text, want = " a b ", want+"  a b "
		}
		if kind != int64(i+1) || !impl.OpOk(o) || impl.ProgText([]impl.Op{o}) != want {
			t.Error(kind, o, impl.ProgText([]impl.Op{o}), want)
		}
		if back, ok := impl.ReadProg(want); !ok || !slices.Equal(back, []impl.Op{o}) {
			t.Error(want, back, ok)
		}
	}
}

func TestOpOkAgainstTheRules(t *testing.T) {
	for _, kind := range append([]int64{3, 4, 8, 9, 10, 11, 12, 13, 14, 15, 16, 17, 18}, edgeNumbers...) {
		for _, n := range edgeNumbers {
			for _, m := range edgeNumbers {
				for _, text := range edgeTexts {
					o := op(kind, n, m, text)
					if got := impl.OpOk(o); got != ruledRight(o) {
						t.Fatal(o, got)
					}
				}
			}
		}
	}
}

func TestFieldsThatAKindDoesNotName(t *testing.T) {
	for i, r := range kindRules {
		right := op(int64(i+1), 0, 0, "")
		if r.n {
			right.N = 1
		}
		if !impl.OpOk(right) {
			t.Fatal(right)
		}
		n, m, text := right, right, right
		n.N, m.M, text.Text = 2, 1, "x"
		m2 := right
		m2.M = -1
		if impl.OpOk(n) != r.n || impl.OpOk(m) != r.m || impl.OpOk(m2) != r.m || impl.OpOk(text) != r.text {
			t.Error(r)
		}
	}
}

func TestBytesOfText(t *testing.T) {
	for b := range 256 {
		want := b >= 32 && b <= 126 && b != ';'
		for _, text := range []string{string([]byte{byte(b)}), "0123456789abcdefghi" + string([]byte{byte(b)}), "a" + string([]byte{byte(b)}) + "z"} {
			for _, o := range []impl.Op{op(impl.OpSend, 1, 0, text), op(impl.OpShow, 1, 0, text), op(impl.OpWrite, 1, 0, text)} {
				if impl.OpOk(o) != want {
					t.Error(o)
				}
				if back, ok := impl.ReadProg(impl.ProgText([]impl.Op{o})); ok != want || want && back[0] != o {
					t.Error(o, back, ok)
				}
			}
			if _, ok := impl.ReadProg("show 1 " + text); b != ';' && ok != want {
				t.Errorf("%q %v", text, ok)
			}
		}
	}
}

func TestProgLengths(t *testing.T) {
	for n := range 25 {
		l := slices.Repeat([]impl.Op{op(impl.OpRun, 1, 0, "")}, n)
		s := strings.TrimSuffix(strings.Repeat("run 1;", n), ";")
		right := n >= 1 && n <= 20
		want := ""
		if right {
			want = s
		}
		if impl.ProgOk(l) != right || impl.ProgText(l) != want {
			t.Error(n, impl.ProgOk(l), impl.ProgText(l))
		}
		if back, ok := impl.ReadProg(s); ok != right || right && !slices.Equal(back, l) || !right && len(back) != 0 {
			t.Error(n, back, ok)
		}
	}
	if impl.ProgOk(nil) || impl.ProgOk([]impl.Op{}) || impl.ProgText(nil) != "" {
		t.Error("a program without ops is none")
	}
}

func TestOneWrongOpMakesAWrongProgram(t *testing.T) {
	for at := range 5 {
		l := slices.Repeat([]impl.Op{op(impl.OpLoop, 0, 0, "")}, 5)
		l[at].N = 1
		if impl.ProgOk(l) || impl.ProgText(l) != "" {
			t.Error(at)
		}
	}
}

func TestProgramsComeBack(t *testing.T) {
	all := "run 3;sleep 2;wait 1 -1;signal 1;set 1;reset 1;await 1 0;send 2 5 hi there;take 2 -1;show 1 ;clear 1;read 1 3;write 1 x;fetch 2;start 2;stop 2;loop"
	for _, s := range []string{
		all, "loop", "run 1", "run 1000", "wait 1000 1000", "wait 1 -1", "send 1 0 ", "send 1 -1  ", "send 1000 1000 0123456789abcdefghij", "show 1 ", "show 1  ", "write 1 ", "write 1    x  ",
		"show 1 ;show 1 ;show 1 ", "write 5                     ", "show 1 1 1", "send 1 1 1 1", "send 2 -1 -1", "show 3 loop", "write 1 a:b",
	} {
		l, ok := impl.ReadProg(s)
		if !ok || !impl.ProgOk(l) || impl.ProgText(l) != s {
			t.Errorf("%q %v %v", s, l, ok)
		}
	}
	d := &dice{state: 4}
	for range 3000 {
		l := rolledProg(d)
		back, ok := impl.ReadProg(impl.ProgText(l))
		if !impl.ProgOk(l) || !ok || !slices.Equal(back, l) {
			t.Fatal(l, back, ok)
		}
	}
}

func TestReadTextFields(t *testing.T) {
	wants := map[string]impl.Op{
		"send 2 5 ":         op(impl.OpSend, 2, 5, ""),
		"send 2 5   ":       op(impl.OpSend, 2, 5, "  "),
		"send 2 5 hi there": op(impl.OpSend, 2, 5, "hi there"),
		"show 2 ":           op(impl.OpShow, 2, 0, ""),
		"show 2 5 x":        op(impl.OpShow, 2, 0, "5 x"),
		"write 2  x ":       op(impl.OpWrite, 2, 0, " x "),
		"take 7 0":          op(impl.OpTake, 7, 0, ""),
		"read 7 -1":         op(impl.OpRead, 7, -1, ""),
	}
	for s, o := range wants {
		if l, ok := impl.ReadProg(s); !ok || !slices.Equal(l, []impl.Op{o}) {
			t.Errorf("%q %v %v", s, l, ok)
		}
	}
}

func TestWrongProgTexts(t *testing.T) {
	l := []string{
		"", " ", ";", ";;", "fly 1", "Run 1", "RUN 1", "ru 1", "runs 1", "run", "run ", "run1", "run  1", " run 1", "run 1 ", "run\t1", "run 1\n", "\nrun 1",
		"run 0", "run -1", "run 1001", "run 01", "run +1", "run 1.0", "run 0x1", "run 1_0", "run x", "run -0", "run 1:1", "run 10000000000", "run 18446744073709551617", "run 9223372036854775808",
		"run 1;", ";run 1", "run 1;;run 1", "run 1; run 1", "run 1 ;run 1", "run 1,run 1", "run 1;fly", "run 1\nrun 1", "run 1;loop;",
		"run 1 1", "sleep 1 1", "signal 1 x", "set 1 1", "reset 1 1", "clear 1 1", "fetch 1 1", "start 1 1", "stop 1 1",
		"sleep", "signal", "set", "reset", "clear", "fetch", "start", "stop", "sleep 0", "signal 1001", "set 0", "reset 1001", "clear 0", "fetch 1001", "start 0", "stop 1001",
		"wait", "wait 1", "wait 1 ", "wait 1 -2", "wait 1 1001", "wait 0 0", "wait 1001 0", "wait 1 1 1", "wait 1 1 ", "wait 1  1", "wait 1 01", "wait 1 -01", "wait 1 -0", "wait 1 +1", "wait 1 --1", "wait 1 x",
		"await 1", "await 1 -2", "take 1", "take 1 1001", "take 1 1 x", "read 1", "read 1 -2", "read 1 3 ",
		"send", "send 1", "send 1 1", "send 1  x", "send 1 x x", "send 0 1 x", "send 1 -2 x", "send 1 1001 x", "send 1 1 0123456789abcdefghijk", "send 1 1 \x1f", "send 1 1 \x7f", "send 1 1 é",
		"show", "show 1", "show  x", "show x", "show 0 x", "show 1001 x", "show 1 0123456789abcdefghijk", "show 1 \n", "show 1 x;", "show 1 ;", "show 01 x",
		"write", "write 1", "write 0 ", "write 1 \xff", "write 1 0123456789abcdefghijk",
		"loop 1", "loop ", " loop", "loop  ", "loop 0", "loops", "loop\x00",
		"1", "1 1", "run 1\x00", strings.Repeat(";", 5000), strings.Repeat(" ", 5000), "show 1 " + strings.Repeat("x", 5000), strings.Repeat("loop;", 5000) + "loop",
	}
	for _, s := range l {
		if got, ok := impl.ReadProg(s); ok || len(got) != 0 {
			t.Errorf("%.40q %v %v", s, got, ok)
		}
	}
}

func TestProgramsAreReadOnlyFromTheirTexts(t *testing.T) {
	d := &dice{state: 5}
	for range 20000 {
		s := d.garbled(impl.ProgText(rolledProg(d)), "0123456789;; -+:axrunlop\x1f\x7f\xff")
		l, ok := impl.ReadProg(s)
		if ok && (!impl.ProgOk(l) || impl.ProgText(l) != s) || !ok && len(l) != 0 {
			t.Fatalf("%q %v %v", s, l, ok)
		}
	}
}

func TestProgCallsAtAnyArgument(t *testing.T) {
	d := &dice{state: 6}
	edge := func() int64 { return edgeNumbers[d.below(int64(len(edgeNumbers)))] }
	for range 20000 {
		var l []impl.Op
		right := true
		for range 1 + d.below(3) {
			o := rolledOp(d)
			switch d.below(8) {
			case 0:
				o.Kind = edge()
			case 1:
				o.N = edge()
			case 2:
				o.M = edge()
			case 3:
				o.Text = edgeTexts[d.below(int64(len(edgeTexts)))]
			}
			right = right && ruledRight(o)
			l = append(l, o)
		}
		s := impl.ProgText(l)
		if impl.ProgOk(l) != right || (s != "") != right {
			t.Fatal(l, right, s)
		}
		if back, ok := impl.ReadProg(s); ok != right || right && !slices.Equal(back, l) {
			t.Fatal(l, back, ok)
		}
	}
}

func TestProgCallsWriteIntoNoArgument(t *testing.T) {
	d := &dice{state: 7}
	for i := range 200 {
		l := rolledProg(d)
		if i%2 == 0 {
			l[d.below(int64(len(l)))].M = 1001
		}
		room := append(slices.Clone(l), op(91, 92, 93, "spare"), op(94, 95, 96, "room"))
		was := slices.Clone(room)
		for range 2 {
			impl.OpOk(room[0])
			impl.ProgOk(room[:len(l)])
			impl.ProgText(room[:len(l)])
		}
		if !slices.Equal(room, was) {
			t.Fatal(room)
		}
	}
}

func TestReadProgsShareNothing(t *testing.T) {
	const s = "run 1;send 2 3 x;loop"
	a, _ := impl.ReadProg(s)
	b, _ := impl.ReadProg(s)
	a[0] = op(99, 99, 99, "other")
	a = append(a[:1], op(98, 98, 98, "other"))
	if impl.ProgText(b) != s {
		t.Error(b)
	}
	impl.ReadProg("wrong")
	if c, ok := impl.ReadProg(s); !ok || impl.ProgText(c) != s {
		t.Error(c, ok)
	}
}
