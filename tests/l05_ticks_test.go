package tests

import (
	"fmt"
	"math"
	"slices"
	"strconv"
	"strings"
	"testing"

	"loop.example/g00313/impl"
)

func numbersIn(s string) []int64 {
	var l []int64
	for _, word := range strings.Fields(s) {
		n, err := strconv.ParseInt(word, 10, 64)
		if err != nil {
			panic("no number: " + s)
		}
		l = append(l, n)
	}
	return l
}

func putOver[T any](l []T, x T, id func(T) int64) []T {
	return putIn(slices.DeleteFunc(slices.Clone(l), func(y T) bool { return id(y) == id(x) }), x, id)
}

// putLine lays a line of PartText over p: the thing is new or in the place of
// the one with its Id.
func putLine(p *impl.Part, line string) {
	word, rest, _ := strings.Cut(line, " ")
	pieces := strings.Split(rest, ";")
	switch word {
	case "part":
		n := numbersIn(rest)
		p.Id, p.Next = n[0], n[1]
	case "proc":
		n := numbersIn(pieces[0])
		x := impl.Proc{Id: n[0], Prio: n[1], State: n[2], At: n[3], Left: n[4], Wake: n[5], On: n[6], Code: n[7], Since: n[8],
			Held: pieces[1], Got: pieces[2], Prog: prog(strings.Join(pieces[3:], ";"))}
		p.Procs = putOver(p.Procs, x, func(x impl.Proc) int64 { return x.Id })
	case "sem":
		n := numbersIn(rest)
		p.Sems = putOver(p.Sems, impl.Sem{Id: n[0], N: n[1], Max: n[2]}, func(x impl.Sem) int64 { return x.Id })
	case "event":
		n := numbersIn(rest)
		p.Events = putOver(p.Events, impl.Event{Id: n[0], Up: n[1] == 1}, func(x impl.Event) int64 { return x.Id })
	case "board":
		words := strings.SplitN(rest, " ", 3)
		b := impl.Board{Id: numbersIn(words[0])[0], Shown: words[1] == "1", Text: words[2]}
		p.Boards = putOver(p.Boards, b, func(x impl.Board) int64 { return x.Id })
	case "buffer":
		n := numbersIn(pieces[0])
		p.Buffers = putOver(p.Buffers, impl.Buffer{Id: n[0], Max: n[1], Items: pieces[1:]}, func(x impl.Buffer) int64 { return x.Id })
	case "port":
		n := numbersIn(pieces[0])
		q := impl.Port{Id: n[0], Out: n[1] == 1, Queue: n[2] == 1, Max: n[3], Items: pieces[1:]}
		p.Ports = putOver(p.Ports, q, func(x impl.Port) int64 { return x.Id })
	default:
		panic("no line: " + line)
	}
}

type lines []string

func (l lines) over(p impl.Part) impl.Part {
	p = copied(p)
	for _, line := range l {
		putLine(&p, line)
	}
	return p
}

// tickBase stands around each case, in which the process 5 does the op: 800
// would be better, but sleeps on, and 900 is ready behind 5.
var tickBase = lines{
	"part 3 50",
	"proc 800 50 2 0 0 90 0 1 41 ;;slept;sleep 50;loop",
	"proc 900 1 1 0 2 0 0 2 6 ;;kept;run 5;loop",
	"sem 2 1 3", "sem 9 1 3",
	"event 2 0", "event 9 1",
	"board 2 0 ", "board 9 1 nine",
	"buffer 2 2;a", "buffer 9 2;p",
	"port 9 1 1 2;r",
}

// outcome is what comes of the process 5 and its turn.
type outcome func(p *impl.Part, x *impl.Proc)

func past(code int64, got string) outcome {
	return func(p *impl.Part, x *impl.Proc) {
		x.Code, x.Got, x.Left = code, got, 0
		x.At++
		if x.At == int64(len(x.Prog)) {
			x.State, x.At, x.Since = impl.PsDormant, 0, 0
		}
	}
}

func waits(state, on, wake int64, held, got string) outcome {
	return func(p *impl.Part, x *impl.Proc) {
		x.State, x.On, x.Wake, x.Held, x.Got, x.Since = state, on, wake, held, got, 50
		p.Next = 51
	}
}

func stays(left int64) outcome {
	return func(p *impl.Part, x *impl.Proc) { x.Left = left }
}

func rests(p *impl.Part, x *impl.Proc) {
	x.State, x.At, x.Since = impl.PsDormant, 0, 0
}

func loops(p *impl.Part, x *impl.Proc) { x.At = 0 }

type tickCase struct {
	op    string
	left  int64
	given lines
	doer  outcome
	want  lines
}

// programsWith has the op at each kind of place in a program.
func programsWith(op string) map[int64][]impl.Op {
	return map[int64][]impl.Op{0: prog(op), 1: prog("run 7;" + op), 2: prog("run 7;loop;" + op + ";run 3;loop")}
}

func (c tickCase) given30(place int64, l []impl.Op) impl.Part {
	p := tickBase.over(impl.Part{})
	p.Procs = putOver(p.Procs, impl.Proc{Id: 5, Prio: 30, Prog: l, State: impl.PsReady, At: place, Left: c.left, Got: "old", Code: impl.RcTime, Since: 20},
		func(x impl.Proc) int64 { return x.Id })
	return c.given.over(p)
}

// wantTicks makes the tick at the time 30.
func wantTicks(t *testing.T, cases []tickCase) {
	t.Helper()
	for _, c := range cases {
		for place, l := range programsWith(c.op) {
			p := c.given30(place, l)
			want := c.want.over(p)
			c.doer(&want, procAt(&want, 5))
			if !impl.PartOk(p) || !impl.PartOk(want) {
				t.Fatalf("%s %q: the case itself is not right", c.op, c.given)
			}
			wantUnwritten(t, p, func(p impl.Part) {
				got, ok := impl.Ticked(p, 30)
				if !ok || !same(got, want) {
					t.Errorf("%s %q at the place %d:\n%swant\n%s", c.op, c.given, place, impl.PartText(got), impl.PartText(want))
				}
				wantNewMemory(t, got, p)
			})
			if !same(tickedByHand(p, 30), want) {
				t.Errorf("%s %q: by hand it is another", c.op, c.given)
			}
		}
	}
}

const (
	done = impl.RcDone
	not  = impl.RcNot
	none = impl.RcNone
)

func TestRun(t *testing.T) {
	wantTicks(t, []tickCase{
		{op: "run 1", doer: past(done, "old")},
		{op: "run 2", doer: stays(1)},
		{op: "run 2", left: 1, doer: past(done, "old")},
		{op: "run 3", doer: stays(2)},
		{op: "run 3", left: 2, doer: stays(1)},
		{op: "run 3", left: 1, doer: past(done, "old")},
		{op: "run 1000", doer: stays(999)},
		{op: "run 1000", left: 999, doer: stays(998)},
		{op: "run 1000", left: 1, doer: past(done, "old")},
	})
}

func TestSleep(t *testing.T) {
	wantTicks(t, []tickCase{
		{op: "sleep 1", doer: waits(impl.PsSleep, 0, 31, "", "old")},
		{op: "sleep 9", doer: waits(impl.PsSleep, 0, 39, "", "old")},
		{op: "sleep 1000", doer: waits(impl.PsSleep, 0, 1030, "", "old")},
	})
}

func TestLoop(t *testing.T) {
	wantTicks(t, []tickCase{{op: "loop", doer: loops}})
}

// TestNoSuchThing asks for numbers that things of the other kinds have.
func TestNoSuchThing(t *testing.T) {
	all := map[string]lines{
		"sem":    {"sem 3 1 3", "sem 4 0 3"},
		"event":  {"event 3 1", "event 4 0"},
		"board":  {"board 3 1 x", "board 4 0 "},
		"buffer": {"buffer 3 2;x", "buffer 4 2"},
		"port":   {"port 3 1 1 2;x", "port 4 0 1 2;x"},
		"proc":   {"proc 3 9 1 0 0 0 0 0 3 ;;;loop", "proc 4 9 0 0 0 0 0 0 0 ;;;loop"},
	}
	kindOf := map[string]string{
		"wait": "sem", "signal": "sem", "set": "event", "reset": "event", "await": "event", "send": "buffer", "take": "buffer",
		"show": "board", "clear": "board", "read": "board", "write": "port", "fetch": "port", "start": "proc", "stop": "proc",
	}
	for word, kind := range kindOf {
		var others lines
		for name, l := range all {
			if name != kind {
				others = append(others, l...)
			}
		}
		for _, n := range []string{"3", "4", "1", "1000"} {
			for _, tail := range tailsOf(word) {
				wantTicks(t, []tickCase{{op: word + " " + n + tail, given: others, doer: past(none, "old")}})
			}
		}
	}
}

func tailsOf(word string) []string {
	switch word {
	case "wait", "await", "take", "read":
		return []string{" 0", " 1", " 1000", " -1"}
	case "send":
		return []string{" 0 x", " 1 x", " 1000 x", " -1 x"}
	case "show", "write":
		return []string{" x", " "}
	}
	return []string{""}
}

func TestWait(t *testing.T) {
	for _, m := range []string{"0", "1", "7", "1000", "-1"} {
		wantTicks(t, []tickCase{
			{op: "wait 2 " + m, given: lines{"sem 2 1 1"}, doer: past(done, "old"), want: lines{"sem 2 0 1"}},
			{op: "wait 2 " + m, given: lines{"sem 2 2 3"}, doer: past(done, "old"), want: lines{"sem 2 1 3"}},
			{op: "wait 2 " + m, given: lines{"sem 2 1000 1000"}, doer: past(done, "old"), want: lines{"sem 2 999 1000"}},
			// With one that waits, too: it comes to the semaphore ahead of it.
			{op: "wait 2 " + m, given: lines{"sem 2 1 3", "proc 1 40 3 0 0 -1 2 1 7 ;;;loop"}, doer: past(done, "old"), want: lines{"sem 2 0 3"}},
		})
	}
	wantTicks(t, []tickCase{
		{op: "wait 2 0", given: lines{"sem 2 0 3"}, doer: past(not, "old")},
		{op: "wait 2 1", given: lines{"sem 2 0 3"}, doer: waits(impl.PsSem, 2, 31, "", "old")},
		{op: "wait 2 7", given: lines{"sem 2 0 1"}, doer: waits(impl.PsSem, 2, 37, "", "old")},
		{op: "wait 2 1000", given: lines{"sem 2 0 1"}, doer: waits(impl.PsSem, 2, 1030, "", "old")},
		{op: "wait 2 -1", given: lines{"sem 2 0 1000"}, doer: waits(impl.PsSem, 2, -1, "", "old")},
		{op: "wait 2 -1", given: lines{"sem 2 0 3", "proc 1 9 3 0 0 -1 2 1 7 ;;;loop"}, doer: waits(impl.PsSem, 2, -1, "", "old")},
	})
}

func TestSignal(t *testing.T) {
	// They wait for something else that has the number 2, or for another
	// semaphore.
	others := lines{"proc 6 50 4 0 0 -1 2 1 2 ;;;loop", "proc 7 50 3 0 0 -1 9 1 3 ;;;loop"}
	one := lines{"proc 1 4 3 0 0 77 2 1 12 ;;w;wait 2 9;run 1"}
	oneWoken := lines{"part 3 51", "proc 1 4 1 1 0 0 0 0 50 ;;w;wait 2 9;run 1"}
	wantTicks(t, []tickCase{
		{op: "signal 2", given: append(others, "sem 2 0 3"), doer: past(done, "old"), want: lines{"sem 2 1 3"}},
		{op: "signal 2", given: append(others, "sem 2 2 3"), doer: past(done, "old"), want: lines{"sem 2 3 3"}},
		{op: "signal 2", given: append(others, "sem 2 3 3"), doer: past(not, "old")},
		{op: "signal 2", given: lines{"sem 2 0 1"}, doer: past(done, "old"), want: lines{"sem 2 1 1"}},
		{op: "signal 2", given: lines{"sem 2 1 1"}, doer: past(not, "old")},
		{op: "signal 2", given: lines{"sem 2 1000 1000"}, doer: past(not, "old")},
		{op: "signal 2", given: append(one, "sem 2 0 3"), doer: past(done, "old"), want: oneWoken},
		{op: "signal 2", given: append(one, "sem 2 1 3"), doer: past(done, "old"), want: oneWoken},
		{op: "signal 2", given: append(one, "sem 2 3 3"), doer: past(done, "old"), want: oneWoken},
		// One that is woken at the end of its program takes no turn.
		{op: "signal 2", given: lines{"sem 2 0 3", "proc 1 4 3 1 0 -1 2 1 12 ;;w;run 1;wait 2 -1"}, doer: past(done, "old"),
			want: lines{"proc 1 4 0 0 0 0 0 0 0 ;;w;run 1;wait 2 -1"}},
		// By Prio, although the others wait longer; then by Since.
		{op: "signal 2", given: lines{"sem 2 0 3", "proc 1 4 3 0 0 -1 2 1 2 ;;;wait 2 -1;loop", "proc 6 5 3 0 0 -1 2 1 30 ;;w;wait 2 -1;loop",
			"proc 7 3 3 0 0 -1 2 1 1 ;;;wait 2 -1;loop"}, doer: past(done, "old"), want: lines{"part 3 51", "proc 6 5 1 1 0 0 0 0 50 ;;w;wait 2 -1;loop"}},
		{op: "signal 2", given: lines{"sem 2 0 3", "proc 1 4 3 0 0 -1 2 1 12 ;;;wait 2 -1;loop", "proc 6 4 3 0 0 -1 2 1 13 ;;;wait 2 -1;loop",
			"proc 7 4 3 0 0 -1 2 1 11 ;;w;wait 2 -1;loop"}, doer: past(done, "old"), want: lines{"part 3 51", "proc 7 4 1 1 0 0 0 0 50 ;;w;wait 2 -1;loop"}},
	})
}

func TestSetAndReset(t *testing.T) {
	others := lines{"proc 6 50 3 0 0 -1 2 1 2 ;;;loop", "proc 7 50 4 0 0 -1 9 1 3 ;;;loop"}
	three := lines{"proc 1 4 4 0 0 -1 2 1 30 ;;a;await 2 -1;loop", "proc 6 5 4 0 0 77 2 2 31 ;;b;await 2 -1;loop", "proc 7 4 4 0 0 -1 2 3 29 ;;c;await 2 -1;loop"}
	threeWoken := lines{"part 3 53", "event 2 1", "proc 1 4 1 1 0 0 0 0 52 ;;a;await 2 -1;loop", "proc 6 5 1 1 0 0 0 0 50 ;;b;await 2 -1;loop",
		"proc 7 4 1 1 0 0 0 0 51 ;;c;await 2 -1;loop"}
	wantTicks(t, []tickCase{
		{op: "set 2", given: append(others, "event 2 0"), doer: past(done, "old"), want: lines{"event 2 1"}},
		{op: "set 2", given: append(others, "event 2 1"), doer: past(done, "old")},
		{op: "set 2", given: lines{"event 2 0", "proc 1 4 4 0 0 77 2 1 30 ;;a;await 2 -1;loop"}, doer: past(done, "old"),
			want: lines{"part 3 51", "event 2 1", "proc 1 4 1 1 0 0 0 0 50 ;;a;await 2 -1;loop"}},
		{op: "set 2", given: append(three, "event 2 0"), doer: past(done, "old"), want: threeWoken},
		{op: "set 2", given: append(three, "event 2 1"), doer: past(done, "old"), want: threeWoken},
		{op: "set 2", given: append(three, "event 2 0", "proc 6 5 4 1 0 77 2 2 31 ;;b;loop;await 2 -1"), doer: past(done, "old"),
			want: lines{"part 3 52", "event 2 1", "proc 1 4 1 1 0 0 0 0 51 ;;a;await 2 -1;loop", "proc 6 5 0 0 0 0 0 0 0 ;;b;loop;await 2 -1",
				"proc 7 4 1 1 0 0 0 0 50 ;;c;await 2 -1;loop"}},
		{op: "reset 2", given: append(others, "event 2 1"), doer: past(done, "old"), want: lines{"event 2 0"}},
		{op: "reset 2", given: append(others, "event 2 0"), doer: past(done, "old")},
		{op: "reset 2", given: append(three, "event 2 1"), doer: past(done, "old"), want: lines{"event 2 0"}},
	})
}

func TestAwait(t *testing.T) {
	for _, m := range []string{"0", "1", "7", "1000", "-1"} {
		wantTicks(t, []tickCase{{op: "await 2 " + m, given: lines{"event 2 1"}, doer: past(done, "old")}})
	}
	wantTicks(t, []tickCase{
		{op: "await 2 0", doer: past(not, "old")},
		{op: "await 2 1", doer: waits(impl.PsEvent, 2, 31, "", "old")},
		{op: "await 2 7", doer: waits(impl.PsEvent, 2, 37, "", "old")},
		{op: "await 2 1000", doer: waits(impl.PsEvent, 2, 1030, "", "old")},
		{op: "await 2 -1", doer: waits(impl.PsEvent, 2, -1, "", "old")},
		{op: "await 2 -1", given: lines{"proc 1 9 4 0 0 -1 2 1 7 ;;;loop"}, doer: waits(impl.PsEvent, 2, -1, "", "old")},
	})
}

func TestSendWithRoom(t *testing.T) {
	for _, m := range []string{"0", "7", "-1"} {
		wantTicks(t, []tickCase{
			{op: "send 2 " + m + " new", given: lines{"buffer 2 1"}, doer: past(done, "old"), want: lines{"buffer 2 1;new"}},
			{op: "send 2 " + m + " new", given: lines{"buffer 2 2;a"}, doer: past(done, "old"), want: lines{"buffer 2 2;a;new"}},
			{op: "send 2 " + m + " ", given: lines{"buffer 2 5;a;b;c;d"}, doer: past(done, "old"), want: lines{"buffer 2 5;a;b;c;d;"}},
			// Those that wait to send are not asked, nor those at another buffer.
			{op: "send 2 " + m + " new", given: lines{"buffer 2 2;a", "proc 1 9 5 0 0 -1 2 1 7 ;held;g;loop", "proc 6 9 6 0 0 -1 9 1 8 ;;g;loop",
				"proc 7 9 7 0 0 -1 2 1 9 ;;g;loop"}, doer: past(done, "old"), want: lines{"buffer 2 2;a;new"}},
		})
	}
}

func TestSendIntoAFullBuffer(t *testing.T) {
	for _, full := range []string{"buffer 2 1;a", "buffer 2 2;a;b", "buffer 2 5;a;b;c;d;e"} {
		wantTicks(t, []tickCase{
			{op: "send 2 0 new", given: lines{full}, doer: past(not, "old")},
			{op: "send 2 1 new", given: lines{full}, doer: waits(impl.PsSend, 2, 31, "new", "old")},
			{op: "send 2 7 ", given: lines{full}, doer: waits(impl.PsSend, 2, 37, "", "old")},
			{op: "send 2 1000 new", given: lines{full}, doer: waits(impl.PsSend, 2, 1030, "new", "old")},
			{op: "send 2 -1 new", given: lines{full}, doer: waits(impl.PsSend, 2, -1, "new", "old")},
			{op: "send 2 -1 new", given: lines{full, "proc 1 9 5 0 0 -1 2 1 7 ;held;g;loop", "proc 6 9 6 0 0 -1 9 1 8 ;;g;loop"},
				doer: waits(impl.PsSend, 2, -1, "new", "old")},
		})
	}
}

func TestSendToSomeThatTake(t *testing.T) {
	three := lines{"proc 1 4 6 0 0 -1 2 1 12 ;;;take 2 -1;loop", "proc 6 4 6 0 0 77 2 2 11 ;;g;take 2 -1;loop", "proc 7 3 6 0 0 -1 2 3 10 ;;h;take 2 -1;loop"}
	woken := lines{"part 3 51", "proc 6 4 1 1 0 0 0 0 50 ;;new;take 2 -1;loop"}
	for _, buffer := range []string{"buffer 2 1", "buffer 2 3;a", "buffer 2 2;a;b"} {
		for _, m := range []string{"0", "7", "-1"} {
			wantTicks(t, []tickCase{
				{op: "send 2 " + m + " new", given: append(three, buffer), doer: past(done, "old"), want: woken},
				{op: "send 2 " + m + " ", given: lines{buffer, "proc 6 4 6 0 0 77 2 2 11 ;;g;take 2 9;loop"}, doer: past(done, "old"),
					want: lines{"part 3 51", "proc 6 4 1 1 0 0 0 0 50 ;;;take 2 9;loop"}},
				{op: "send 2 " + m + " new", given: lines{buffer, "proc 6 4 6 0 0 77 2 2 11 ;;g;take 2 9", "proc 1 9 5 0 0 -1 2 1 7 ;held;g;loop"},
					doer: past(done, "old"), want: lines{"proc 6 4 0 0 0 0 0 0 0 ;;new;take 2 9"}},
			})
		}
	}
}

func TestTakeWithItems(t *testing.T) {
	three := lines{"proc 1 4 5 0 0 -1 2 1 12 ;h1;;send 2 -1 h1;loop", "proc 6 4 5 0 0 77 2 2 11 ;h6;g;send 2 -1 h6;loop", "proc 7 3 5 0 0 -1 2 3 10 ;h7;h;send 2 -1 h7;loop"}
	woken := lines{"part 3 51", "proc 6 4 1 1 0 0 0 0 50 ;;g;send 2 -1 h6;loop"}
	for _, m := range []string{"0", "7", "-1"} {
		wantTicks(t, []tickCase{
			{op: "take 2 " + m, given: lines{"buffer 2 1;a"}, doer: past(done, "a"), want: lines{"buffer 2 1"}},
			{op: "take 2 " + m, given: lines{"buffer 2 5;;b"}, doer: past(done, ""), want: lines{"buffer 2 5;b"}},
			{op: "take 2 " + m, given: lines{"buffer 2 3;a;b;c"}, doer: past(done, "a"), want: lines{"buffer 2 3;b;c"}},
			{op: "take 2 " + m, given: append(three, "buffer 2 1;a"), doer: past(done, "a"), want: append(woken, "buffer 2 1;h6")},
			{op: "take 2 " + m, given: append(three, "buffer 2 3;a;b;c"), doer: past(done, "a"), want: append(woken, "buffer 2 3;b;c;h6")},
			{op: "take 2 " + m, given: append(three, "buffer 2 4;a"), doer: past(done, "a"), want: append(woken, "buffer 2 4;h6")},
			{op: "take 2 " + m, given: lines{"buffer 2 1;a", "proc 1 4 5 1 0 -1 2 1 12 ;;g;loop;send 2 -1 "}, doer: past(done, "a"),
				want: lines{"buffer 2 1;", "proc 1 4 0 0 0 0 0 0 0 ;;g;loop;send 2 -1 "}},
			{op: "take 2 " + m, given: lines{"buffer 2 2;a;b", "proc 1 9 6 0 0 -1 2 1 7 ;;g;loop", "proc 6 9 5 0 0 -1 9 1 8 ;x;g;loop"}, doer: past(done, "a"),
				want: lines{"buffer 2 2;b"}},
		})
	}
}

func TestTakeWithoutItems(t *testing.T) {
	for _, given := range []lines{{"buffer 2 1"}, {"buffer 2 5"}, {"buffer 2 2", "proc 1 9 5 0 0 -1 2 1 7 ;held;g;loop"}, {"buffer 2 2", "proc 1 9 6 0 0 -1 2 1 7 ;;g;loop"}} {
		wantTicks(t, []tickCase{
			{op: "take 2 0", given: given, doer: past(not, "")},
			{op: "take 2 1", given: given, doer: waits(impl.PsTake, 2, 31, "", "")},
			{op: "take 2 7", given: given, doer: waits(impl.PsTake, 2, 37, "", "")},
			{op: "take 2 1000", given: given, doer: waits(impl.PsTake, 2, 1030, "", "")},
			{op: "take 2 -1", given: given, doer: waits(impl.PsTake, 2, -1, "", "")},
		})
	}
}

func TestShowAndClear(t *testing.T) {
	others := lines{"proc 6 50 6 0 0 -1 2 1 2 ;;;loop", "proc 7 50 7 0 0 -1 9 1 3 ;;;loop"}
	three := lines{"proc 1 4 7 0 0 -1 2 1 30 ;;a;read 2 -1;loop", "proc 6 5 7 0 0 77 2 2 31 ;;;read 2 -1;loop", "proc 7 4 7 1 0 -1 2 3 29 ;;c;loop;read 2 -1"}
	wantTicks(t, []tickCase{
		{op: "show 2 new", given: append(others, "board 2 0 "), doer: past(done, "old"), want: lines{"board 2 1 new"}},
		{op: "show 2 new", given: append(others, "board 2 1 was"), doer: past(done, "old"), want: lines{"board 2 1 new"}},
		{op: "show 2 ", given: append(others, "board 2 0 "), doer: past(done, "old"), want: lines{"board 2 1 "}},
		{op: "show 2 ", given: append(others, "board 2 1 was"), doer: past(done, "old"), want: lines{"board 2 1 "}},
		{op: "show 2 new", given: append(three, "board 2 0 "), doer: past(done, "old"), want: lines{"part 3 52", "board 2 1 new",
			"proc 1 4 1 1 0 0 0 0 51 ;;new;read 2 -1;loop", "proc 6 5 1 1 0 0 0 0 50 ;;new;read 2 -1;loop", "proc 7 4 0 0 0 0 0 0 0 ;;new;loop;read 2 -1"}},
		{op: "show 2 ", given: append(three, "board 2 1 was"), doer: past(done, "old"), want: lines{"part 3 52", "board 2 1 ",
			"proc 1 4 1 1 0 0 0 0 51 ;;;read 2 -1;loop", "proc 6 5 1 1 0 0 0 0 50 ;;;read 2 -1;loop", "proc 7 4 0 0 0 0 0 0 0 ;;;loop;read 2 -1"}},
		{op: "show 2 new", given: lines{"proc 1 4 7 0 0 -1 2 1 12 ;;a;read 2 -1;loop", "proc 6 4 7 0 0 -1 2 1 11 ;;a;read 2 -1;loop"}, doer: past(done, "old"),
			want: lines{"part 3 52", "board 2 1 new", "proc 1 4 1 1 0 0 0 0 51 ;;new;read 2 -1;loop", "proc 6 4 1 1 0 0 0 0 50 ;;new;read 2 -1;loop"}},
		{op: "clear 2", given: append(others, "board 2 1 was"), doer: past(done, "old"), want: lines{"board 2 0 "}},
		{op: "clear 2", given: append(others, "board 2 1 "), doer: past(done, "old"), want: lines{"board 2 0 "}},
		{op: "clear 2", given: append(three, "board 2 0 "), doer: past(done, "old")},
	})
}

func TestRead(t *testing.T) {
	for _, m := range []string{"0", "7", "-1"} {
		wantTicks(t, []tickCase{
			{op: "read 2 " + m, given: lines{"board 2 1 was"}, doer: past(done, "was")},
			{op: "read 2 " + m, given: lines{"board 2 1 "}, doer: past(done, "")},
			{op: "read 2 " + m, given: lines{"board 2 1 was", "proc 1 9 7 0 0 -1 2 1 7 ;;g;loop"}, doer: past(done, "was")},
		})
	}
	wantTicks(t, []tickCase{
		{op: "read 2 0", doer: past(not, "")},
		{op: "read 2 1", doer: waits(impl.PsRead, 2, 31, "", "")},
		{op: "read 2 7", doer: waits(impl.PsRead, 2, 37, "", "")},
		{op: "read 2 1000", doer: waits(impl.PsRead, 2, 1030, "", "")},
		{op: "read 2 -1", doer: waits(impl.PsRead, 2, -1, "", "")},
	})
}

func TestWriteAndFetch(t *testing.T) {
	wantTicks(t, []tickCase{
		{op: "write 2 new", given: lines{"port 2 1 0 1"}, doer: past(done, "old"), want: lines{"port 2 1 0 1;new"}},
		{op: "write 2 new", given: lines{"port 2 1 0 1;was"}, doer: past(done, "old"), want: lines{"port 2 1 0 1;new"}},
		{op: "write 2 ", given: lines{"port 2 1 0 1;was"}, doer: past(done, "old"), want: lines{"port 2 1 0 1;"}},
		{op: "write 2 new", given: lines{"port 2 1 1 1"}, doer: past(done, "old"), want: lines{"port 2 1 1 1;new"}},
		{op: "write 2 new", given: lines{"port 2 1 1 3;a;b"}, doer: past(done, "old"), want: lines{"port 2 1 1 3;a;b;new"}},
		{op: "write 2 ", given: lines{"port 2 1 1 5;a;b;c;d"}, doer: past(done, "old"), want: lines{"port 2 1 1 5;a;b;c;d;"}},
		{op: "write 2 new", given: lines{"port 2 1 1 1;a"}, doer: past(not, "old")},
		{op: "write 2 new", given: lines{"port 2 1 1 5;a;b;c;d;e"}, doer: past(not, "old")},
		{op: "fetch 2", given: lines{"port 2 0 0 1"}, doer: past(not, "")},
		{op: "fetch 2", given: lines{"port 2 0 0 1;a"}, doer: past(done, "a")},
		{op: "fetch 2", given: lines{"port 2 0 0 1;"}, doer: past(done, "")},
		{op: "fetch 2", given: lines{"port 2 0 1 1"}, doer: past(not, "")},
		{op: "fetch 2", given: lines{"port 2 0 1 1;a"}, doer: past(done, "a"), want: lines{"port 2 0 1 1"}},
		{op: "fetch 2", given: lines{"port 2 0 1 3;;b;c"}, doer: past(done, ""), want: lines{"port 2 0 1 3;b;c"}},
	})
	for _, rest := range []string{"0 1", "0 1;a", "1 1", "1 1;a", "1 3;a;b"} {
		wantTicks(t, []tickCase{
			{op: "write 2 new", given: lines{"port 2 0 " + rest}, doer: past(none, "old")},
			{op: "fetch 2", given: lines{"port 2 1 " + rest}, doer: past(none, "old")},
		})
	}
}

// inEachState is a process 2 in each state but dormant.
var inEachState = []string{
	"proc 2 7 1 1 0 0 0 3 12 ;;g;run 9;loop",
	"proc 2 7 1 0 8 0 0 3 12 ;;g;run 9;loop",
	"proc 2 7 2 1 0 77 0 3 12 ;;g;run 9;loop",
	"proc 2 7 3 1 0 -1 2 3 12 ;;g;run 9;loop",
	"proc 2 7 4 1 0 77 2 3 12 ;;g;run 9;loop",
	"proc 2 7 5 1 0 77 2 3 12 ;held;g;run 9;loop",
	"proc 2 7 6 1 0 -1 2 3 12 ;;g;run 9;loop",
	"proc 2 7 7 1 0 77 2 3 12 ;;g;run 9;loop",
}

func TestStartAndStop(t *testing.T) {
	const rest = "proc 2 7 0 0 0 0 0 3 0 ;;g;run 9;loop"
	wantTicks(t, []tickCase{
		{op: "start 2", given: lines{rest}, doer: past(done, "old"), want: lines{"part 3 51", "proc 2 7 1 0 0 0 0 3 50 ;;g;run 9;loop"}},
		{op: "stop 2", given: lines{rest}, doer: past(not, "old")},
		{op: "start 5", doer: past(not, "old")},
		{op: "stop 5", doer: rests},
		// One that is started and of a higher Prio does nothing in this tick.
		{op: "start 1", given: lines{"proc 1 50 0 0 0 0 0 0 0 ;;;run 1"}, doer: past(done, "old"), want: lines{"part 3 51", "proc 1 50 1 0 0 0 0 0 50 ;;;run 1"}},
	})
	for _, line := range inEachState {
		wantTicks(t, []tickCase{
			{op: "start 2", given: lines{line}, doer: past(not, "old")},
			{op: "stop 2", given: lines{line}, doer: past(done, "old"), want: lines{rest}},
		})
	}
}

// wantTicked has all of p and of what is wanted in lines.
func wantTicked(t *testing.T, now int64, given, want lines) {
	t.Helper()
	p := given.over(impl.Part{})
	if !impl.PartOk(p) {
		t.Fatal("the case itself is not right", given)
	}
	got, ok := impl.Ticked(p, now)
	if text := strings.Join(want, "\n") + "\n"; !ok || impl.PartText(got) != text {
		t.Errorf("%d %q:\n%swant\n%s", now, given, impl.PartText(got), text)
	}
	wantNewMemory(t, got, p)
}

func TestWhoIsChosenDoesIt(t *testing.T) {
	wantTicked(t, 1, // by Prio
		lines{"part 1 9", "proc 1 5 1 0 0 0 0 0 1 ;;;run 2", "proc 2 6 1 0 0 0 0 0 8 ;;;run 2"},
		lines{"part 1 9", "proc 1 5 1 0 0 0 0 0 1 ;;;run 2", "proc 2 6 1 0 1 0 0 0 8 ;;;run 2"})
	wantTicked(t, 1, // by Since, which stays: the one goes on until it waits or ends
		lines{"part 1 9", "proc 1 5 1 0 0 0 0 0 8 ;;;run 1;run 2", "proc 2 5 1 0 0 0 0 0 7 ;;;run 1;run 2"},
		lines{"part 1 9", "proc 1 5 1 0 0 0 0 0 8 ;;;run 1;run 2", "proc 2 5 1 1 0 0 0 0 7 ;;;run 1;run 2"})
}

func TestATickInWhichNoneIsReady(t *testing.T) {
	for _, given := range []lines{
		{"part 1 1"},
		{"part 1 9", "proc 1 5 0 0 0 0 0 2 0 ;;g;run 2"},
		{"part 1 9", "proc 1 5 2 0 0 2 0 0 1 ;;g;run 2", "proc 2 5 3 0 0 -1 1 0 2 ;;g;run 2", "sem 1 1 1"},
		{"part 1 9", "proc 1 5 5 0 0 2 4 0 1 ;x;g;run 2", "buffer 4 3"},
	} {
		wantTicked(t, 1, given, given)
	}
	wantTicked(t, 2, // the one that is woken is at its end
		lines{"part 1 9", "proc 1 5 2 1 0 2 0 3 1 ;;g;run 2;sleep 1"},
		lines{"part 1 9", "proc 1 5 0 0 0 0 0 0 0 ;;g;run 2;sleep 1"})
}

func TestATickThatWakes(t *testing.T) {
	wantTicked(t, 30, // the woken is better, and does its next op at once
		lines{"part 1 50", "proc 1 9 2 0 0 30 0 1 4 ;;g;sleep 5;run 3", "proc 2 8 1 0 0 0 0 0 2 ;;;run 2"},
		lines{"part 1 51", "proc 1 9 1 1 2 0 0 0 50 ;;g;sleep 5;run 3", "proc 2 8 1 0 0 0 0 0 2 ;;;run 2"})
	wantTicked(t, 30, // of the same Prio it comes behind those that are ready
		lines{"part 1 50", "proc 1 9 2 0 0 30 0 1 4 ;;g;sleep 5;run 3", "proc 2 9 1 0 0 0 0 0 49 ;;;run 2"},
		lines{"part 1 51", "proc 1 9 1 1 0 0 0 0 50 ;;g;sleep 5;run 3", "proc 2 9 1 0 1 0 0 0 49 ;;;run 2"})
	wantTicked(t, 30, // several at once, by Wake and Id; the best of them sleeps again
		lines{"part 1 50", "proc 1 9 2 0 0 30 0 1 4 ;;;sleep 5;run 3", "proc 2 9 2 0 0 29 0 1 5 ;;;sleep 5;sleep 4", "proc 3 9 6 0 0 30 2 0 6 ;;;take 2 5;run 1", "buffer 2 1;x"},
		lines{"part 1 54", "proc 1 9 1 1 0 0 0 0 51 ;;;sleep 5;run 3", "proc 2 9 2 1 0 34 0 0 53 ;;;sleep 5;sleep 4", "proc 3 9 1 1 0 0 0 2 52 ;;;take 2 5;run 1", "buffer 2 1;x"})
	wantTicked(t, 30, // who has waited in vain is no more there to be signalled
		lines{"part 1 50", "proc 1 5 3 0 0 30 2 0 4 ;;;wait 2 5;run 3", "proc 2 9 1 0 0 0 0 0 2 ;;;signal 2;run 1", "sem 2 0 1"},
		lines{"part 1 51", "proc 1 5 1 1 0 0 0 2 50 ;;;wait 2 5;run 3", "proc 2 9 1 1 0 0 0 0 2 ;;;signal 2;run 1", "sem 2 1 1"})
	wantTicked(t, 29, // but one tick sooner it is
		lines{"part 1 50", "proc 1 5 3 0 0 30 2 1 4 ;;;wait 2 5;run 3", "proc 2 9 1 0 0 0 0 1 2 ;;;signal 2;run 1", "sem 2 0 1"},
		lines{"part 1 51", "proc 1 5 1 1 0 0 0 0 50 ;;;wait 2 5;run 3", "proc 2 9 1 1 0 0 0 0 2 ;;;signal 2;run 1", "sem 2 0 1"})
	wantTicked(t, 30, // one that waited in vain to send has sent nothing
		lines{"part 1 50", "proc 1 5 5 0 0 30 2 0 4 ;x;g;send 2 5 x;run 3", "proc 2 9 1 0 0 0 0 0 2 ;;;take 2 0;run 1", "buffer 2 1;a"},
		lines{"part 1 51", "proc 1 5 1 1 0 0 0 2 50 ;;g;send 2 5 x;run 3", "proc 2 9 1 1 0 0 0 0 2 ;;a;take 2 0;run 1", "buffer 2 1"})
}

func TestTickedAtTheLimits(t *testing.T) {
	wantTicked(t, 0, lines{"part 1 9", "proc 1 5 1 0 0 0 0 0 1 ;;;sleep 1"}, lines{"part 1 10", "proc 1 5 2 0 0 1 0 0 9 ;;;sleep 1"})
	wantTicked(t, impl.MaxTime, lines{"part 1 9", "proc 1 5 1 0 0 0 0 0 1 ;;;sleep 1000"}, lines{"part 1 10", "proc 1 5 2 0 0 1000001000 0 0 9 ;;;sleep 1000"})
	wantTicked(t, impl.MaxTime, lines{"part 1 9", "proc 1 5 1 0 0 0 0 0 1 ;;;read 1 1000", "board 1 0 "},
		lines{"part 1 10", "proc 1 5 7 0 0 1000001000 1 0 9 ;;;read 1 1000", "board 1 0 "})
	wantTicked(t, 5, lines{"part 1 999999980", "proc 1 5 1 0 0 0 0 0 999999979 ;;;sleep 1"}, lines{"part 1 999999981", "proc 1 5 2 0 0 6 0 0 999999980 ;;;sleep 1"})
	// One is woken by its time and wakes all others in the same tick.
	given, want := lines{"part 1 999999980", "proc 1 9 2 0 0 5 0 0 1 ;;;sleep 1;set 1;loop"}, lines{"part 1 999999986", "proc 1 9 1 2 0 0 0 0 999999980 ;;;sleep 1;set 1;loop"}
	for id := 2; id <= 6; id++ {
		given = append(given, fmt.Sprint("proc ", id, " 5 4 0 0 -1 1 0 ", id, " ;;;await 1 -1;loop"))
		want = append(want, fmt.Sprint("proc ", id, " 5 1 1 0 0 0 0 ", 999999979+id, " ;;;await 1 -1;loop"))
	}
	wantTicked(t, 5, append(given, "event 1 0"), append(want, "event 1 1"))
}

func TestTickedIsFalseWhereWokenIs(t *testing.T) {
	for _, now := range append(slices.Clone(edgeNumbers), 9) {
		p := partInState(impl.PsSem)
		got, ok := impl.Ticked(p, now)
		want := impl.Part{}
		if within(now, 0, impl.MaxTime) {
			want = tickedByHand(p, now)
		}
		if ok != within(now, 0, impl.MaxTime) || !same(got, want) {
			t.Error(now, got, ok)
		}
	}
	for next, want := range map[int64]bool{16: true, 999999979: true, 999999980: true, 999999981: false, 1000000000: false, 1000000001: false, math.MaxInt64: false} {
		p := partInState(impl.PsSem)
		p.Next = next
		if got, ok := impl.Ticked(p, 9); ok != want || ok && !same(got, tickedByHand(p, 9)) || !ok && !same(got, impl.Part{}) {
			t.Error(next, got, ok)
		}
	}
	for _, p := range wrongParts() {
		if got, ok := impl.Ticked(p, 9); ok || !same(got, impl.Part{}) {
			t.Error(p, got, ok)
		}
	}
}

// lowProg has ops that find what they name in a partition of low Ids, as often
// as not.
func lowProg(d *dice, n int) []impl.Op {
	l := make([]impl.Op, n)
	for i := range l {
		l[i] = rolledOp(d)
		if l[i].N > 0 {
			l[i].N = 1 + d.below(6)
		}
		if l[i].M > 0 {
			l[i].M = d.below(5) - 1
		}
	}
	return l
}

func rolledForTicks(d *dice) impl.Part {
	p := rolledPart(d)
	for i := range p.Procs {
		x := &p.Procs[i]
		x.Prog = lowProg(d, len(x.Prog))
		x.Left = 0
		if o := x.Prog[x.At]; x.State == impl.PsReady && o.Kind == impl.OpRun {
			x.Left = d.below(o.N)
		}
	}
	return p
}

// TestTicksAgainstTheRules also counts what has come of each op, so that none
// of the ends that an op can have is missed.
func TestTicksAgainstTheRules(t *testing.T) {
	seen := map[[2]int64]int{}
	d := &dice{state: 51}
	for range 30000 {
		p := rolledForTicks(d)
		now := d.below(6)
		want := tickedByHand(p, now)
		got, ok := impl.Ticked(p, now)
		if !ok || !same(got, want) || !impl.PartOk(got) {
			t.Fatalf("%d\n%s: %v\n%swant\n%s", now, impl.PartText(p), ok, impl.PartText(got), impl.PartText(want))
		}
		woken, _ := impl.Woken(p, now)
		if x, ok := impl.ProcOf(woken, impl.Chosen(woken)); ok {
			y := procAt(&got, x.Id)
			end := y.Code
			if y.State > impl.PsReady {
				end = 10 + y.State
			}
			seen[[2]int64{x.Prog[x.At].Kind, end}]++
		}
	}
	for kind, ends := range [][]int64{{}, {0}, {12}, {0, 1, 3, 13}, {0, 1, 3}, {0, 3}, {0, 3}, {0, 1, 3, 14}, {0, 1, 3, 15}, {0, 1, 3, 16}, {0, 3}, {0, 3}, {0, 1, 3, 17},
		{0, 1, 3}, {0, 1, 3}, {0, 1, 3}, {0, 1, 3}, {0, 1, 2, 3}} {
		for _, end := range ends {
			if seen[[2]int64{int64(kind), end}] < 5 {
				t.Error("hardly seen", kind, end)
			}
		}
	}
}

func TestManyTicksAgainstTheRules(t *testing.T) {
	d := &dice{state: 52}
	for range 300 {
		p := rolledForTicks(d)
		now, n := d.below(6), d.below(60)
		want := p
		for i := range n {
			want = tickedByHand(want, now+i)
		}
		if got, ok := impl.TickedBy(p, now, n); !ok || !same(got, want) {
			t.Fatalf("%d %d\n%s: %v\n%swant\n%s", now, n, impl.PartText(p), ok, impl.PartText(got), impl.PartText(want))
		}
	}
}

func TestOnlyTheChosenGoesOnByItself(t *testing.T) {
	d := &dice{state: 53}
	for range 5000 {
		p := rolledForTicks(d)
		now := d.below(6)
		woken, _ := impl.Woken(p, now)
		got, _ := impl.Ticked(p, now)
		x, ok := impl.ProcOf(woken, impl.Chosen(woken))
		if !ok {
			if !same(got, woken) {
				t.Fatalf("%+v", p)
			}
			continue
		}
		for i, y := range woken.Procs {
			o := x.Prog[x.At]
			meant := y.Id == x.Id || o.N == y.Id && (o.Kind == impl.OpStart || o.Kind == impl.OpStop) || y.State > impl.PsSleep && y.On == o.N
			if !meant && !same(got.Procs[i], y) {
				t.Fatalf("%+v does %v: %+v, %+v", x, o, y, got.Procs[i])
			}
		}
	}
}

func startedPart(given lines) impl.Part {
	p := given.over(impl.Part{Id: 1, Next: 1})
	for _, x := range p.Procs {
		p, _ = impl.Started(p, x.Id)
	}
	return p
}

func tickedBy(t *testing.T, p impl.Part, now, n int64) impl.Part {
	t.Helper()
	q, ok := impl.TickedBy(p, now, n)
	if !ok {
		t.Fatal(impl.PartText(p), now, n)
	}
	return q
}

func TestOneRunsJustSoManyTicks(t *testing.T) {
	for n := int64(1); n <= 199; n += 1 + n/3 {
		for _, tail := range []string{"", ";run 5"} {
			p := startedPart(lines{fmt.Sprint("proc 1 5 0 0 0 0 0 3 0 ;;g;run ", n, tail), "proc 2 4 0 0 0 0 0 0 0 ;;;run 9"})
			before, behind, later := tickedBy(t, p, 7, n-1), tickedBy(t, p, 7, n), tickedBy(t, p, 7, n+1)
			if x := before.Procs[0]; x.At != 0 || x.State != impl.PsReady || x.Code != none || n > 1 && x.Left != 1 {
				t.Error(n, x)
			}
			x := behind.Procs[0]
			if x.Code != done || x.Left != 0 || tail == "" && x.State != impl.PsDormant || tail != "" && (x.At != 1 || x.State != impl.PsReady) {
				t.Error(n, x)
			}
			if !same(behind.Procs[1], p.Procs[1]) || tail == "" && later.Procs[1].Left != 8 || tail != "" && later.Procs[0].Left != 4 {
				t.Error(n, impl.PartText(later))
			}
		}
	}
}

// TestWaitsInVain has each op that waits, at a thing that stays as it is.
func TestWaitsInVain(t *testing.T) {
	things := lines{"sem 1 0 1", "event 1 0", "board 1 0 ", "buffer 1 1", "buffer 2 1;x"}
	for op, state := range map[string]int64{"sleep": 2, "wait 1": 3, "await 1": 4, "send 2": 5, "take 1": 6, "read 1": 7} {
		code := int64(impl.RcTime)
		if op == "sleep" {
			code = done
		}
		for _, m := range []int64{1, 2, 3, 50, 198} {
			for _, now := range []int64{0, 1, 1000} {
				full := fmt.Sprint(op, " ", m)
				if op == "send 2" {
					full += " y"
				}
				p := startedPart(append(things, "proc 1 5 0 0 0 0 0 3 0 ;;;"+full+";run 9"))
				first, before, behind := tickedBy(t, p, now, 1), tickedBy(t, p, now, m), tickedBy(t, p, now, m+1)
				if x := first.Procs[0]; x.State != state || x.Wake != now+m || x.Code != none || !same(first, before) {
					t.Error(full, now, x, before)
				}
				if x := behind.Procs[0]; x.State != impl.PsReady || x.At != 1 || x.Left != 8 || x.Code != code || x.Held != "" {
					t.Error(full, now, x)
				}
				behind.Procs, p.Procs, behind.Next = nil, nil, p.Next
				if !same(behind, p) {
					t.Error(full, now, behind)
				}
			}
		}
	}
}

func TestOneThatWaitsWithoutATimeWaitsOn(t *testing.T) {
	things := lines{"sem 1 0 1", "event 1 0", "board 1 0 ", "buffer 1 1", "buffer 2 1;x"}
	for _, op := range []string{"wait 1 -1", "await 1 -1", "send 2 -1 y", "take 1 -1", "read 1 -1"} {
		p := startedPart(append(things, "proc 1 5 0 0 0 0 0 3 0 ;;;"+op+";run 9"))
		first, later := tickedBy(t, p, 5, 1), tickedBy(t, p, 5, 200)
		if x := later.Procs[0]; !same(first, later) || x.State < impl.PsSem || x.Wake != -1 {
			t.Error(op, x)
		}
		if end, ok := impl.Ticked(later, impl.MaxTime); !ok || !same(end, later) {
			t.Error(op, end, ok)
		}
	}
}

// isThere says that the thing which x waits for is there.
func isThere(p impl.Part, x impl.Proc) bool {
	h := handTick{p: &p, o: impl.Op{N: x.On}}
	switch x.State {
	case impl.PsSem:
		return h.sem().N > 0
	case impl.PsEvent:
		return h.event().Up
	case impl.PsSend:
		return int64(len(h.buffer().Items)) < h.buffer().Max
	case impl.PsTake:
		return len(h.buffer().Items) > 0
	case impl.PsRead:
		return h.board().Shown
	}
	return false
}

func TestWhatWaitsWaitsForWhatIsNotThere(t *testing.T) {
	d := &dice{state: 54}
	waited := map[int64]int{}
	for range 300 {
		p := rolledForTicks(d)
		for i := range p.Procs {
			p.Procs[i] = dormant(p.Procs[i])
		}
		for _, x := range p.Procs {
			p, _ = impl.Started(p, x.Id)
		}
		for now := range int64(60) {
			p = tickedBy(t, p, now, 1)
			for _, x := range p.Procs {
				waited[x.State]++
				if isThere(p, x) {
					t.Fatalf("%d %+v\n%s", now, x, impl.PartText(p))
				}
			}
		}
	}
	for state := range int64(states) {
		if waited[state] < 100 {
			t.Error("hardly seen", state, waited)
		}
	}
}

// takenFrom are the texts that the process id gets, one by one.
func takenFrom(t *testing.T, p impl.Part, id int64, n int64) []string {
	t.Helper()
	var l []string
	for now := range n {
		q := tickedBy(t, p, now, 1)
		was, is := procAt(&p, id), procAt(&q, id)
		if is.At > was.At || is.State == impl.PsDormant && was.State != impl.PsDormant {
			l = append(l, is.Got)
		}
		p = q
	}
	return l
}

func TestWhatIsSentIsTakenInOrder(t *testing.T) {
	sends := "send 1 -1 a;send 1 -1 b;send 1 -1 c;send 1 -1 d;send 1 -1 e;send 1 -1 f;send 1 -1 g"
	takes := strings.TrimSuffix(strings.Repeat("take 1 -1;", 7), ";")
	for most := 1; most <= 5; most++ {
		for _, prios := range [][2]int{{5, 5}, {5, 4}, {4, 5}} {
			p := startedPart(lines{fmt.Sprint("buffer 1 ", most), fmt.Sprint("proc 1 ", prios[0], " 0 0 0 0 0 0 0 ;;;", sends),
				fmt.Sprint("proc 2 ", prios[1], " 0 0 0 0 0 0 0 ;;;", takes)})
			if got := strings.Join(takenFrom(t, p, 2, 60), ""); got != "abcdefg" {
				t.Error(most, prios, got)
			}
		}
	}
}

func TestWhatTwoSendIsTakenInTheOrderOfEach(t *testing.T) {
	takes := strings.TrimSuffix(strings.Repeat("take 1 -1;", 8), ";")
	for most := 1; most <= 5; most++ {
		for prio := range 27 {
			p := startedPart(lines{fmt.Sprint("buffer 1 ", most), fmt.Sprint("proc 1 ", 1+prio%3, " 0 0 0 0 0 0 0 ;;;send 1 -1 a;send 1 -1 b;sleep 2;send 1 -1 c;send 1 -1 d"),
				fmt.Sprint("proc 2 ", 1+prio/3%3, " 0 0 0 0 0 0 0 ;;;send 1 -1 A;run 2;send 1 -1 B;send 1 -1 C;send 1 -1 D"),
				fmt.Sprint("proc 3 ", 1+prio/9, " 0 0 0 0 0 0 0 ;;;", takes)})
			got := strings.Join(takenFrom(t, p, 3, 80), "")
			if len(got) != 8 || strings.Map(keep("abcd"), got) != "abcd" || strings.Map(keep("ABCD"), got) != "ABCD" {
				t.Error(most, prio, got)
			}
		}
	}
}

func keep(letters string) func(rune) rune {
	return func(r rune) rune {
		if strings.ContainsRune(letters, r) {
			return r
		}
		return -1
	}
}

func TestTickedByCounts(t *testing.T) {
	p := startedPart(lines{"proc 1 5 0 0 0 0 0 0 0 ;;;run 1000"})
	for _, n := range append(slices.Clone(edgeNumbers), 199, 200, 201, 202) {
		got, ok := impl.TickedBy(p, 3, n)
		if ok != within(n, 0, 200) || !ok && !same(got, impl.Part{}) {
			t.Error(n, got, ok)
			continue
		}
		want := copied(p)
		if n > 0 {
			want.Procs[0].Left = 1000 - n
		}
		if ok && !same(got, want) {
			t.Error(n, impl.PartText(got))
		}
	}
}

func TestNoTicksAskForNoTime(t *testing.T) {
	for _, now := range edgeNumbers {
		for _, p := range rightParts() {
			got, ok := impl.TickedBy(p, now, 0)
			if !ok || !same(got, p) {
				t.Error(now, got, ok)
			}
			wantNewMemory(t, got, p)
		}
	}
}

func TestTickedByOfWrongParts(t *testing.T) {
	for _, p := range wrongParts() {
		for _, n := range []int64{-1, 0, 1, 2, 200, 201, math.MinInt64, math.MaxInt64} {
			for _, now := range []int64{-1, 0, 9, impl.MaxTime} {
				if got, ok := impl.TickedBy(p, now, n); ok || !same(got, impl.Part{}) {
					t.Error(p, now, n, got, ok)
				}
			}
		}
	}
}

func TestTickedByWhereOneTickIsFalse(t *testing.T) {
	p := startedPart(lines{"proc 1 5 0 0 0 0 0 0 0 ;;;run 1000"})
	for _, c := range []struct {
		now, n int64
		want   bool
	}{
		{-1, 1, false}, {-1, 2, false}, {-200, 200, false}, {0, 1, true}, {0, 200, true}, {math.MinInt64, 200, false}, {math.MaxInt64, 1, false}, {math.MaxInt64, 200, false},
		{math.MaxInt64 - 100, 200, false}, {impl.MaxTime, 1, true}, {impl.MaxTime, 2, false}, {impl.MaxTime - 1, 2, true}, {impl.MaxTime - 1, 3, false},
		{impl.MaxTime - 199, 200, true}, {impl.MaxTime - 198, 200, false}, {impl.MaxTime + 1, 1, false}, {impl.MaxTime + 1, 200, false},
	} {
		if got, ok := impl.TickedBy(p, c.now, c.n); ok != c.want || !ok && !same(got, impl.Part{}) {
			t.Error(c, got, ok)
		}
	}
	// Each second tick takes a turn: those that are left are used up, and the
	// next tick is false.
	for room := range int64(10) {
		q := copied(p)
		q.Procs[0].Prog = prog("sleep 1;loop")
		q.Next = impl.MaxTime - 20 - room
		want := q
		for n := int64(1); n <= 20; n++ {
			fits := want.Next <= impl.MaxTime-20
			if fits {
				want = tickedByHand(want, n)
			}
			if got, ok := impl.TickedBy(q, 1, n); ok != fits || ok && !same(got, want) || !ok && !same(got, impl.Part{}) {
				t.Error(room, n, got, ok)
			}
			if !fits {
				break
			}
		}
		if want.Next <= impl.MaxTime-20 {
			t.Error("never false", room)
		}
	}
}

func TestTicksInTwoPieces(t *testing.T) {
	d := &dice{state: 55}
	for i := range 600 {
		p := rolledForTicks(d)
		now := d.below(6)
		if i%10 == 0 {
			p.Next = impl.MaxTime - 20 - d.below(30)
		}
		if i%10 == 1 {
			now = impl.MaxTime - d.below(30)
		}
		first, second := d.below(40), d.below(40)
		whole, ok := impl.TickedBy(p, now, first+second)
		half, one := impl.TickedBy(p, now, first)
		both, two := impl.TickedBy(half, now+first, second)
		if ok != (one && two) || ok && !same(whole, both) {
			t.Fatalf("%d %d %d\n%s: %v %v %v", now, first, second, impl.PartText(p), ok, one, two)
		}
		once, oneOk := impl.Ticked(p, now)
		if again, ok := impl.TickedBy(p, now, 1); ok != oneOk || !same(once, again) {
			t.Fatalf("%d\n%s", now, impl.PartText(p))
		}
	}
}

func TestTickCallsAtAnyArgument(t *testing.T) {
	d := &dice{state: 56}
	for range 20000 {
		p := rolledForTicks(d)
		for range d.below(3) {
			spoil(d, &p)
		}
		now, n := d.below(8)-1, d.below(4)-1
		if d.below(9) == 0 {
			now = edgeNumbers[d.below(int64(len(edgeNumbers)))]
			n = edgeNumbers[d.below(int64(len(edgeNumbers)))]
		}
		right := ruledPart(p)
		can := right && within(now, 0, impl.MaxTime) && p.Next <= impl.MaxTime-20
		got, ok := impl.Ticked(p, now)
		if ok != can || ok && !same(got, tickedByHand(p, now)) || !ok && !same(got, impl.Part{}) {
			t.Fatalf("%+v %d %+v %v", p, now, got, ok)
		}
		got, ok = impl.TickedBy(p, now, n)
		if ok && (!right || !within(n, 0, 200) || !ruledPart(got)) || !ok && (!same(got, impl.Part{}) || right && n == 0 || can && n == 1) {
			t.Fatalf("%+v %d %d %+v %v", p, now, n, got, ok)
		}
	}
}

func TestTickCallsKeepToThemselves(t *testing.T) {
	d := &dice{state: 57}
	l := append(rightParts(), wrongParts()...)
	for range 500 {
		l = append(l, rolledForTicks(d))
	}
	for _, p := range l {
		wantUnwritten(t, p, func(p impl.Part) {
			one, ok := impl.Ticked(p, 4)
			again, too := impl.Ticked(p, 4)
			if ok != too || !same(one, again) {
				t.Fatalf("%+v", p)
			}
			wantNewMemory(t, one, p, again)
			for _, n := range []int64{0, 1, 7, 40} {
				many, ok := impl.TickedBy(p, 4, n)
				again, too := impl.TickedBy(p, 4, n)
				if ok != too || !same(many, again) {
					t.Fatalf("%+v", p)
				}
				wantNewMemory(t, many, p, one, again)
			}
		})
	}
}

func TestTicksOfListsThatShareMemory(t *testing.T) {
	for _, op := range []string{"take 2 0", "take 7 0", "send 7 0 new", "fetch 8", "write 2 new"} {
		p := knottedPart()
		p.Procs[1].Left = 0
		shared := prog("sleep 1;" + op)
		for i := range p.Procs {
			p.Procs[i].Prog = shared
		}
		want := tickedByHand(p, 4)
		got, ok := impl.Ticked(p, 4)
		if !ok || !same(got, want) {
			t.Error(op, impl.PartText(got), impl.PartText(want))
		}
		wantNewMemory(t, got, p)
	}
}
