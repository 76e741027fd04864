package tests

import (
	"fmt"
	"math"
	"slices"
	"strings"
	"testing"

	"loop.example/g00313/impl"
)

func prog(s string) []impl.Op {
	l, ok := impl.ReadProg(s)
	if !ok {
		panic("no program: " + s)
	}
	return l
}

// stockedPart has two things of each kind, of which one has something in it,
// and no processes.
func stockedPart() impl.Part {
	return impl.Part{
		Id: 3, Next: 50,
		Sems:    []impl.Sem{{Id: 2, N: 1, Max: 3}, {Id: 4, N: 0, Max: 1}},
		Events:  []impl.Event{{Id: 2, Up: true}, {Id: 5}},
		Boards:  []impl.Board{{Id: 2, Shown: true, Text: "hi you"}, {Id: 6}},
		Buffers: []impl.Buffer{{Id: 2, Max: 2, Items: []string{"a", ""}}, {Id: 7, Max: 5}},
		Ports:   []impl.Port{{Id: 2, Out: true, Queue: true, Max: 3, Items: []string{"x", "y z"}}, {Id: 8, Max: 1, Items: []string{"w"}}},
	}
}

// testProc is a right process of that state among the things of stockedPart,
// in the midst of its program; Since is Id.
func testProc(id, state int64) impl.Proc {
	x := impl.Proc{Id: id, Prio: 5, Prog: prog("sleep 4;run 5;loop"), State: state, Got: "got", Code: impl.RcNone}
	if state == impl.PsDormant {
		return x
	}
	x.At, x.Since = 1, id
	if state == impl.PsReady {
		x.Left = 3
	}
	if state >= impl.PsSleep {
		x.Wake = 9
	}
	if state > impl.PsSleep {
		x.On = 2
	}
	if state == impl.PsSend {
		x.Held = "held"
	}
	return x
}

const states = 8

func partWithProcs(l ...impl.Proc) impl.Part {
	p := stockedPart()
	p.Procs = l
	return p
}

// partInState has the process 10 in that state between two others.
func partInState(state int64) impl.Part {
	return partWithProcs(testProc(5, impl.PsReady), testProc(10, state), testProc(15, impl.PsSleep))
}

func fullPart() impl.Part {
	p := impl.Part{Id: impl.MaxParts, Next: impl.MaxTime}
	for i := int64(1); i <= impl.MaxProcs; i++ {
		p.Procs = append(p.Procs, impl.Proc{Id: impl.MaxNumber - 10 + i, Prio: impl.MaxPrio, Prog: slices.Repeat(prog("run 1000"), impl.MaxProg),
			State: impl.PsReady, At: impl.MaxProg - 1, Left: 999, Got: strings.Repeat("~", impl.MaxText), Code: 3, Since: impl.MaxTime - i})
	}
	for id := int64(impl.MaxNumber - impl.MaxThings + 1); id <= impl.MaxNumber; id++ {
		items := slices.Repeat([]string{strings.Repeat(" ", impl.MaxText)}, impl.MaxItems)
		p.Sems = append(p.Sems, impl.Sem{Id: id, N: impl.MaxNumber, Max: impl.MaxNumber})
		p.Events = append(p.Events, impl.Event{Id: id, Up: true})
		p.Boards = append(p.Boards, impl.Board{Id: id, Shown: true, Text: items[0]})
		p.Buffers = append(p.Buffers, impl.Buffer{Id: id, Max: impl.MaxItems, Items: slices.Clone(items)})
		p.Ports = append(p.Ports, impl.Port{Id: id, Out: true, Queue: true, Max: impl.MaxItems, Items: slices.Clone(items)})
	}
	return p
}

func rightParts() []impl.Part {
	l := []impl.Part{{Id: 1, Next: 1}, {Id: 6, Next: impl.MaxTime}, stockedPart(), fullPart()}
	for state := range int64(states) {
		l = append(l, partInState(state))
	}
	d := &dice{state: 11}
	for range 100 {
		l = append(l, rolledPart(d))
	}
	return l
}

// wrongParts are wrong each by one thing alone, one of each list among them.
func wrongParts() []impl.Part {
	var l []impl.Part
	for _, change := range []func(*impl.Part){
		func(p *impl.Part) { p.Id = 0 },
		func(p *impl.Part) { p.Id = 7 },
		func(p *impl.Part) { p.Next = 0 },
		func(p *impl.Part) { p.Next = impl.MaxTime + 1 },
		func(p *impl.Part) { p.Procs[1].Prio = 51 },
		func(p *impl.Part) { p.Procs[1].Prog = nil },
		func(p *impl.Part) { p.Procs[2].Since = 5 },
		func(p *impl.Part) { p.Procs[2].State = states },
		func(p *impl.Part) { p.Sems[1].N = 2 },
		func(p *impl.Part) { p.Events[1].Id = 2 },
		func(p *impl.Part) { p.Boards[1].Text = "x" },
		func(p *impl.Part) { p.Buffers[0].Items[1] = ";" },
		func(p *impl.Part) { p.Ports[1].Max = 2 },
	} {
		p := partInState(impl.PsSem)
		change(&p)
		l = append(l, p)
	}
	return append(l, impl.Part{}, impl.Part{Id: 1}, impl.Part{Next: 1})
}

func plainText(s string) bool {
	return len(s) <= 20 && !strings.ContainsFunc(s, func(r rune) bool { return r < 32 || r > 126 || r == ';' })
}

func within(n, least, most int64) bool { return n >= least && n <= most }

func risingNumbers(l []int64, most int) bool {
	for i, id := range l {
		if !within(id, 1, 1000) || i > 0 && l[i-1] >= id {
			return false
		}
	}
	return len(l) <= most
}

func idsOf[T any](l []T, id func(T) int64) []int64 {
	var ids []int64
	for _, x := range l {
		ids = append(ids, id(x))
	}
	return ids
}

type partIds struct{ procs, sems, events, boards, buffers, ports []int64 }

func allIds(p impl.Part) partIds {
	return partIds{
		idsOf(p.Procs, func(x impl.Proc) int64 { return x.Id }),
		idsOf(p.Sems, func(x impl.Sem) int64 { return x.Id }),
		idsOf(p.Events, func(x impl.Event) int64 { return x.Id }),
		idsOf(p.Boards, func(x impl.Board) int64 { return x.Id }),
		idsOf(p.Buffers, func(x impl.Buffer) int64 { return x.Id }),
		idsOf(p.Ports, func(x impl.Port) int64 { return x.Id }),
	}
}

func ruledItems(items []string, most int64) bool {
	return within(most, 1, 5) && int64(len(items)) <= most && !slices.ContainsFunc(items, func(s string) bool { return !plainText(s) })
}

func ruledProc(p impl.Part, x impl.Proc) bool {
	if !within(x.Prio, 1, 50) || !impl.ProgOk(x.Prog) || !plainText(x.Held) || !plainText(x.Got) || !within(x.Code, 0, 3) {
		return false
	}
	if x.State == 0 {
		return x.At == 0 && x.Left == 0 && x.Wake == 0 && x.On == 0 && x.Since == 0 && x.Held == ""
	}
	if !within(x.At, 0, int64(len(x.Prog))-1) || !within(x.Since, 1, p.Next-1) {
		return false
	}
	for _, y := range p.Procs {
		if y.Id != x.Id && y.Since == x.Since {
			return false
		}
	}
	if x.State == 1 {
		o := x.Prog[x.At]
		return x.Wake == 0 && x.On == 0 && x.Held == "" && (x.Left == 0 || o.Kind == impl.OpRun && within(x.Left, 0, o.N-1))
	}
	ids := allIds(p)
	there := map[int64][]int64{2: {0}, 3: ids.sems, 4: ids.events, 5: ids.buffers, 6: ids.buffers, 7: ids.boards}
	return x.Left == 0 && (x.Held == "" || x.State == 5) && slices.Contains(there[x.State], x.On) &&
		(within(x.Wake, 1, 2000000000) || x.State != 2 && x.Wake == -1)
}

// ruledPart is PartOk as chapter 3 has it, sentence by sentence.
func ruledPart(p impl.Part) bool {
	ids := allIds(p)
	ok := within(p.Id, 1, 6) && within(p.Next, 1, 1000000000) && risingNumbers(ids.procs, 6)
	for _, l := range [][]int64{ids.sems, ids.events, ids.boards, ids.buffers, ids.ports} {
		ok = ok && risingNumbers(l, 5)
	}
	for _, s := range p.Sems {
		ok = ok && within(s.Max, 1, 1000) && within(s.N, 0, s.Max)
	}
	for _, b := range p.Boards {
		ok = ok && plainText(b.Text) && (b.Shown || b.Text == "")
	}
	for _, b := range p.Buffers {
		ok = ok && ruledItems(b.Items, b.Max)
	}
	for _, q := range p.Ports {
		ok = ok && ruledItems(q.Items, q.Max) && (q.Queue || q.Max == 1)
	}
	for _, x := range p.Procs {
		ok = ok && ruledProc(p, x)
	}
	return ok
}

func rolledText(d *dice) string { return []string{"", "a", "b c", "0123456789abcdefghij"}[d.below(4)] }

func rolledItems(d *dice, most int64) []string {
	var l []string
	for range d.below(most + 1) {
		l = append(l, rolledText(d))
	}
	return l
}

// rolledPart is a right partition. The things have low Ids, so that programs
// that are rolled for them find what they name.
func rolledPart(d *dice) impl.Part {
	p := impl.Part{Id: 1 + d.below(6), Next: 10 + d.below(20)}
	for id := int64(1); id <= 5; id++ {
		most := 1 + d.below(5)
		if d.below(2) == 0 {
			p.Sems = append(p.Sems, impl.Sem{Id: id, Max: most, N: d.below(most + 1)})
		}
		if d.below(2) == 0 {
			p.Events = append(p.Events, impl.Event{Id: id, Up: d.below(2) == 0})
		}
		if d.below(2) == 0 {
			p.Boards = append(p.Boards, impl.Board{Id: id})
			if d.below(2) == 0 {
				p.Boards[len(p.Boards)-1] = impl.Board{Id: id, Shown: true, Text: rolledText(d)}
			}
		}
		if d.below(2) == 0 {
			p.Buffers = append(p.Buffers, impl.Buffer{Id: id, Max: most, Items: rolledItems(d, most)})
		}
		if d.below(2) == 0 {
			p.Ports = append(p.Ports, impl.Port{Id: id, Out: d.below(2) == 0, Queue: true, Max: most, Items: rolledItems(d, most)})
		} else if d.below(2) == 0 {
			p.Ports = append(p.Ports, impl.Port{Id: id, Out: d.below(2) == 0, Max: 1, Items: rolledItems(d, 1)})
		}
	}
	for id := int64(1); id <= 6; id++ {
		if d.below(5) > 0 {
			p.Procs = append(p.Procs, rolledProc(d, p, id))
		}
	}
	return p
}

func rolledProc(d *dice, p impl.Part, id int64) impl.Proc {
	x := impl.Proc{Id: id, Prio: 1 + d.below(3), Prog: rolledProg(d), Got: rolledText(d), Code: d.below(4)}
	ids := allIds(p)
	x.State = d.below(states)
	if x.State == impl.PsDormant {
		return x
	}
	x.At = d.below(int64(len(x.Prog)))
	for x.Since == 0 || slices.ContainsFunc(p.Procs, func(y impl.Proc) bool { return y.Since == x.Since }) {
		x.Since = 1 + d.below(p.Next-1)
	}
	there := [states][]int64{3: ids.sems, 4: ids.events, 5: ids.buffers, 6: ids.buffers, 7: ids.boards}[x.State]
	if x.State > impl.PsSleep && len(there) == 0 {
		x.State = impl.PsReady
	}
	if x.State == impl.PsReady {
		if o := x.Prog[x.At]; o.Kind == impl.OpRun {
			x.Left = d.below(o.N)
		}
		return x
	}
	x.Wake = 1 + d.below(5)
	if x.State > impl.PsSleep {
		x.On = there[d.below(int64(len(there)))]
		if d.below(4) == 0 {
			x.Wake = -1
		}
	}
	if x.State == impl.PsSend {
		x.Held = rolledText(d)
	}
	return x
}

func TestRightAndWrongParts(t *testing.T) {
	for _, p := range rightParts() {
		if !impl.PartOk(p) || !ruledPart(p) {
			t.Errorf("right, but refused: %+v", p)
		}
	}
	for _, p := range wrongParts() {
		if impl.PartOk(p) || ruledPart(p) {
			t.Errorf("wrong, but accepted: %+v", p)
		}
		if s := impl.PartText(p); s != "" {
			t.Errorf("%+v %q", p, s)
		}
	}
}

// numberRule is a number of a partition and the least and the most it may be.
type numberRule struct {
	what        string
	set         func(p *impl.Part, n int64)
	least, most int64
}

func wantRule(t *testing.T, p impl.Part, r numberRule) {
	t.Helper()
	for _, n := range []int64{r.least - 1, r.least, r.most, r.most + 1, math.MinInt64, math.MaxInt64, -1, 0} {
		q := copied(p)
		r.set(&q, n)
		if want := within(n, r.least, r.most); impl.PartOk(q) != want || (impl.PartText(q) != "") != want {
			t.Errorf("%s %d: want %v", r.what, n, want)
		}
	}
}

func TestNumbersOfThings(t *testing.T) {
	for _, r := range []numberRule{
		{"Id", func(p *impl.Part, n int64) { p.Id = n }, 1, 6},
		{"Next", func(p *impl.Part, n int64) { p.Next = n }, 1, 1000000000},
		{"first sem", func(p *impl.Part, n int64) { p.Sems[0].Id = n }, 1, 3},
		{"last sem", func(p *impl.Part, n int64) { p.Sems[1].Id = n }, 3, 1000},
		{"first event", func(p *impl.Part, n int64) { p.Events[0].Id = n }, 1, 4},
		{"last event", func(p *impl.Part, n int64) { p.Events[1].Id = n }, 3, 1000},
		{"first board", func(p *impl.Part, n int64) { p.Boards[0].Id = n }, 1, 5},
		{"last board", func(p *impl.Part, n int64) { p.Boards[1].Id = n }, 3, 1000},
		{"first buffer", func(p *impl.Part, n int64) { p.Buffers[0].Id = n }, 1, 6},
		{"last buffer", func(p *impl.Part, n int64) { p.Buffers[1].Id = n }, 3, 1000},
		{"first port", func(p *impl.Part, n int64) { p.Ports[0].Id = n }, 1, 7},
		{"last port", func(p *impl.Part, n int64) { p.Ports[1].Id = n }, 3, 1000},
		{"N of a sem", func(p *impl.Part, n int64) { p.Sems[0].N = n }, 0, 3},
		{"N of the last sem", func(p *impl.Part, n int64) { p.Sems[1].N = n }, 0, 1},
		{"Max of a sem", func(p *impl.Part, n int64) { p.Sems[0].Max = n }, 1, 1000},
		{"Max of an empty sem", func(p *impl.Part, n int64) { p.Sems[1].Max = n }, 1, 1000},
		{"Max of a buffer with two", func(p *impl.Part, n int64) { p.Buffers[0].Max = n }, 2, 5},
		{"Max of an empty buffer", func(p *impl.Part, n int64) { p.Buffers[1].Max = n }, 1, 5},
		{"Max of a port with two", func(p *impl.Part, n int64) { p.Ports[0].Max = n }, 2, 5},
		{"Max of a port without Queue", func(p *impl.Part, n int64) { p.Ports[1].Max = n }, 1, 1},
	} {
		wantRule(t, stockedPart(), r)
	}
}

func setMiddle(set func(x *impl.Proc, n int64)) func(p *impl.Part, n int64) {
	return func(p *impl.Part, n int64) { set(&p.Procs[1], n) }
}

var (
	setPrio  = setMiddle(func(x *impl.Proc, n int64) { x.Prio = n })
	setState = setMiddle(func(x *impl.Proc, n int64) { x.State = n })
	setAt    = setMiddle(func(x *impl.Proc, n int64) { x.At = n })
	setLeft  = setMiddle(func(x *impl.Proc, n int64) { x.Left = n })
	setWake  = setMiddle(func(x *impl.Proc, n int64) { x.Wake = n })
	setOn    = setMiddle(func(x *impl.Proc, n int64) { x.On = n })
	setCode  = setMiddle(func(x *impl.Proc, n int64) { x.Code = n })
	setSince = setMiddle(func(x *impl.Proc, n int64) { x.Since = n })
)

func TestNumbersOfProcessesInEachState(t *testing.T) {
	for state := range int64(states) {
		p := partInState(state)
		rules := []numberRule{
			{"Id", setMiddle(func(x *impl.Proc, n int64) { x.Id = n }), 6, 14},
			{"first Id", func(p *impl.Part, n int64) { p.Procs[0].Id = n }, 1, 9},
			{"last Id", func(p *impl.Part, n int64) { p.Procs[2].Id = n }, 11, 1000},
			{"Prio", setPrio, 1, 50},
			{"Code", setCode, 0, 3},
		}
		switch state {
		case impl.PsDormant:
			rules = append(rules, numberRule{"At", setAt, 0, 0}, numberRule{"Left", setLeft, 0, 0}, numberRule{"Wake", setWake, 0, 0},
				numberRule{"On", setOn, 0, 0}, numberRule{"Since", setSince, 0, 0})
		case impl.PsReady:
			rules = append(rules, numberRule{"Left", setLeft, 0, 4}, numberRule{"Wake", setWake, 0, 0}, numberRule{"On", setOn, 0, 0})
		case impl.PsSleep:
			rules = append(rules, numberRule{"At", setAt, 0, 2}, numberRule{"Left", setLeft, 0, 0}, numberRule{"Wake", setWake, 1, 2000000000},
				numberRule{"On", setOn, 0, 0})
		default:
			rules = append(rules, numberRule{"At", setAt, 0, 2}, numberRule{"Left", setLeft, 0, 0}, numberRule{"On", setOn, 2, 2})
		}
		for _, r := range rules {
			r.what = fmt.Sprint("state ", state, " ", r.what)
			wantRule(t, p, r)
		}
	}
}

func TestStates(t *testing.T) {
	for _, state := range []int64{-1, 8, 9, math.MinInt64, math.MaxInt64} {
		for from := range int64(states) {
			p := partInState(from)
			setState(&p, state)
			if impl.PartOk(p) {
				t.Error(from, state)
			}
		}
	}
}

func TestWakeOfThoseThatWaitForAThing(t *testing.T) {
	for state := int64(impl.PsSem); state < states; state++ {
		for wake, want := range map[int64]bool{-2: false, -1: true, 0: false, 1: true, 2000000000: true, 2000000001: false, math.MaxInt64: false, math.MinInt64: false} {
			p := partInState(state)
			setWake(&p, wake)
			if impl.PartOk(p) != want {
				t.Error(state, wake, want)
			}
		}
	}
}

func TestOnByState(t *testing.T) {
	only := map[int64][]int64{impl.PsSem: {2, 4}, impl.PsEvent: {2, 5}, impl.PsSend: {2, 7}, impl.PsTake: {2, 7}, impl.PsRead: {2, 6}}
	for state, there := range only {
		for on := int64(-1); on <= 10; on++ {
			p := partInState(state)
			setOn(&p, on)
			if impl.PartOk(p) != slices.Contains(there, on) {
				t.Error(state, on)
			}
		}
	}
}

func TestLeftByTheOp(t *testing.T) {
	for place, most := range []int64{0, 4, 0, 0, 999} {
		p := partInState(impl.PsReady)
		p.Procs[1].Prog = prog("sleep 4;run 5;loop;run 1;run 1000")
		setAt(&p, int64(place))
		wantRule(t, p, numberRule{fmt.Sprint("Left at ", place), setLeft, 0, most})
	}
	p := partInState(impl.PsReady)
	setLeft(&p, 0)
	wantRule(t, p, numberRule{"At", setAt, 0, 2})
}

func TestSince(t *testing.T) {
	for state := int64(impl.PsReady); state < states; state++ {
		for _, since := range []int64{math.MinInt64, -1, 0, 1, 4, 5, 6, 14, 15, 16, 49, 50, 51, math.MaxInt64} {
			p := partInState(state)
			setSince(&p, since)
			if want := within(since, 1, 49) && since != 5 && since != 15; impl.PartOk(p) != want {
				t.Error(state, since, want)
			}
		}
	}
	for next := int64(10); next < 20; next++ {
		p := partInState(impl.PsSem)
		p.Next = next
		if impl.PartOk(p) != (next > 15) {
			t.Error("Next", next)
		}
	}
	p := partWithProcs(testProc(1, impl.PsDormant), testProc(2, impl.PsDormant))
	if !impl.PartOk(p) {
		t.Error("two dormant ones have one Since")
	}
	p.Next = 1
	if !impl.PartOk(p) {
		t.Error("dormant ones need no turn")
	}
}

func TestTextsOfAPartition(t *testing.T) {
	for _, text := range edgeTexts {
		plain := plainText(text)
		board, hidden, item, portItem := stockedPart(), stockedPart(), stockedPart(), stockedPart()
		board.Boards[0].Text = text
		hidden.Boards[1].Text = text
		item.Buffers[0].Items[1] = text
		portItem.Ports[1].Items[0] = text
		if impl.PartOk(board) != plain || impl.PartOk(hidden) != (text == "") || impl.PartOk(item) != plain || impl.PartOk(portItem) != plain {
			t.Errorf("%q", text)
		}
		for state := range int64(states) {
			held, got := partInState(state), partInState(state)
			held.Procs[1].Held = text
			got.Procs[1].Got = text
			if impl.PartOk(held) != (text == "" || plain && state == impl.PsSend) || impl.PartOk(got) != plain {
				t.Errorf("state %d %q", state, text)
			}
		}
	}
}

func TestProgramsOfProcesses(t *testing.T) {
	for state := range int64(states) {
		for _, l := range [][]impl.Op{nil, {}, {{}}, {{Kind: impl.OpLoop}, {Kind: impl.OpRun, N: 9}, {}}, slices.Repeat(prog("run 9"), 21)} {
			p := partInState(state)
			p.Procs[1].Prog = l
			if impl.PartOk(p) {
				t.Error(state, l)
			}
		}
		p := partInState(state)
		p.Procs[1].Prog = slices.Repeat(prog("run 9"), 20)
		if !impl.PartOk(p) {
			t.Error(state, "twenty ops are right")
		}
	}
}

func TestItemsUpToMax(t *testing.T) {
	for most := int64(1); most <= 5; most++ {
		for n := range 8 {
			items := slices.Repeat([]string{"x"}, n)
			b, q, one := stockedPart(), stockedPart(), stockedPart()
			b.Buffers[1] = impl.Buffer{Id: 7, Max: most, Items: items}
			q.Ports[0] = impl.Port{Id: 2, Queue: true, Max: most, Items: items}
			one.Ports[1] = impl.Port{Id: 8, Max: most, Items: items}
			want := int64(n) <= most
			if impl.PartOk(b) != want || impl.PartOk(q) != want || impl.PartOk(one) != (want && most == 1) {
				t.Error(most, n)
			}
		}
	}
}

func TestPartNew(t *testing.T) {
	for _, id := range append(slices.Clone(edgeNumbers), 3, 4) {
		p, ok := impl.PartNew(id)
		want := impl.Part{}
		if within(id, 1, 6) {
			want = impl.Part{Id: id, Next: 1}
		}
		if ok != within(id, 1, 6) || !same(p, want) || impl.PartOk(p) != ok {
			t.Error(id, p, ok)
		}
	}
}

// kind is one of the six lists of a partition: how a right thing is laid in
// by the program, and how it would be by hand.
type kind struct {
	name string
	most int
	lay  func(p impl.Part, id int64) (impl.Part, bool)
	put  func(p *impl.Part, id int64)
}

func putIn[T any](l []T, x T, id func(T) int64) []T {
	l = append(slices.Clone(l), x)
	slices.SortFunc(l, func(a, b T) int { return int(id(a) - id(b)) })
	return l
}

var kinds = []kind{
	{"proc", impl.MaxProcs,
		func(p impl.Part, id int64) (impl.Part, bool) {
			return impl.WithProc(p, id, 7, prog("run 5;loop"))
		},
		func(p *impl.Part, id int64) {
			p.Procs = putIn(p.Procs, impl.Proc{Id: id, Prio: 7, Prog: prog("run 5;loop")}, func(x impl.Proc) int64 { return x.Id })
		}},
	{"sem", impl.MaxThings,
		func(p impl.Part, id int64) (impl.Part, bool) {
			return impl.WithSem(p, impl.Sem{Id: id, N: 3, Max: 4})
		},
		func(p *impl.Part, id int64) {
			p.Sems = putIn(p.Sems, impl.Sem{Id: id, N: 3, Max: 4}, func(x impl.Sem) int64 { return x.Id })
		}},
	{"event", impl.MaxThings, impl.WithEvent,
		func(p *impl.Part, id int64) {
			p.Events = putIn(p.Events, impl.Event{Id: id}, func(x impl.Event) int64 { return x.Id })
		}},
	{"board", impl.MaxThings, impl.WithBoard,
		func(p *impl.Part, id int64) {
			p.Boards = putIn(p.Boards, impl.Board{Id: id}, func(x impl.Board) int64 { return x.Id })
		}},
	{"buffer", impl.MaxThings,
		func(p impl.Part, id int64) (impl.Part, bool) { return impl.WithBuffer(p, id, 4) },
		func(p *impl.Part, id int64) {
			p.Buffers = putIn(p.Buffers, impl.Buffer{Id: id, Max: 4}, func(x impl.Buffer) int64 { return x.Id })
		}},
	{"port", impl.MaxThings,
		func(p impl.Part, id int64) (impl.Part, bool) {
			return impl.WithPort(p, impl.Port{Id: id, Out: true, Queue: true, Max: 2})
		},
		func(p *impl.Part, id int64) {
			p.Ports = putIn(p.Ports, impl.Port{Id: id, Out: true, Queue: true, Max: 2}, func(x impl.Port) int64 { return x.Id })
		}},
}

func wantLaid(t *testing.T, k kind, p impl.Part, id int64) impl.Part {
	t.Helper()
	want := copied(p)
	k.put(&want, id)
	got, ok := k.lay(p, id)
	if !ok || !same(got, want) || !impl.PartOk(got) {
		t.Errorf("%s %d into %+v: %+v %v", k.name, id, p, got, ok)
	}
	return got
}

func wantNotLaid(t *testing.T, k kind, p impl.Part, id int64) {
	t.Helper()
	if got, ok := k.lay(p, id); ok || !same(got, impl.Part{}) {
		t.Errorf("%s %d into %+v: %+v %v", k.name, id, p, got, ok)
	}
}

func TestLaidIntoEmptyAndFilledParts(t *testing.T) {
	for _, k := range kinds {
		for _, id := range []int64{1, 500, 1000} {
			wantLaid(t, k, impl.Part{Id: 1, Next: 1}, id)
			wantLaid(t, k, impl.Part{Id: 6, Next: impl.MaxTime}, id)
		}
		for state := range int64(states) {
			for _, id := range []int64{1, 3, 9, 11, 999, 1000} {
				wantLaid(t, k, partInState(state), id)
			}
		}
	}
}

func TestLaidInAnyOrderUntilFull(t *testing.T) {
	for _, k := range kinds {
		for _, ids := range [][]int64{{1, 2, 3, 4, 5, 6}, {6, 5, 4, 3, 2, 1}, {500, 1000, 1, 499, 501, 2}, {3, 1, 6, 2, 5, 4}} {
			p := impl.Part{Id: 2, Next: 9}
			for _, id := range ids[:k.most] {
				p = wantLaid(t, k, p, id)
			}
			wantNotLaid(t, k, p, 7)
			wantNotLaid(t, k, p, 1000)
		}
		wantNotLaid(t, k, fullPart(), 1)
	}
}

func TestNotLaid(t *testing.T) {
	there := map[string][]int64{"proc": {5, 10, 15}, "sem": {2, 4}, "event": {2, 5}, "board": {2, 6}, "buffer": {2, 7}, "port": {2, 8}}
	for _, k := range kinds {
		for _, id := range there[k.name] {
			wantNotLaid(t, k, partInState(impl.PsSem), id)
		}
		for _, id := range edgeNumbers {
			if !within(id, 1, 1000) {
				wantNotLaid(t, k, partInState(impl.PsSem), id)
				wantNotLaid(t, k, impl.Part{Id: 1, Next: 1}, id)
			}
		}
		for _, p := range wrongParts() {
			wantNotLaid(t, k, p, 3)
		}
	}
}

func TestIdsCountInTheirOwnListAlone(t *testing.T) {
	// The Ids 2 and 5 are there, but in lists of other kinds.
	p := partInState(impl.PsSem)
	wantLaid(t, kinds[0], p, 2)
	wantLaid(t, kinds[1], p, 5)
}

func wantZeroUnless(t *testing.T, want bool, p impl.Part, ok bool, what ...any) {
	t.Helper()
	if ok != want || !ok && !same(p, impl.Part{}) || ok && !impl.PartOk(p) {
		t.Error(what, p, ok)
	}
}

func TestWhatIsLaidInMustBeRight(t *testing.T) {
	p := stockedPart()
	for _, n := range append(slices.Clone(edgeNumbers), 3, 4, 49, 50, 51) {
		got, ok := impl.WithProc(p, 1, n, prog("loop"))
		wantZeroUnless(t, within(n, 1, 50), got, ok, "prio", n)
		got, ok = impl.WithBuffer(p, 1, n)
		wantZeroUnless(t, within(n, 1, 5), got, ok, "buffer", n)
		got, ok = impl.WithPort(p, impl.Port{Id: 1, Queue: true, Max: n})
		wantZeroUnless(t, within(n, 1, 5), got, ok, "queue", n)
		got, ok = impl.WithPort(p, impl.Port{Id: 1, Out: true, Max: n})
		wantZeroUnless(t, n == 1, got, ok, "port", n)
		for _, m := range edgeNumbers {
			got, ok = impl.WithSem(p, impl.Sem{Id: 1, N: n, Max: m})
			wantZeroUnless(t, within(m, 1, 1000) && within(n, 0, m), got, ok, "sem", n, m)
		}
	}
	for _, l := range [][]impl.Op{nil, {}, {{}}, append(prog("loop"), impl.Op{}), slices.Repeat(prog("loop"), 21), slices.Repeat(prog("loop"), 5000)} {
		got, ok := impl.WithProc(p, 1, 1, l)
		wantZeroUnless(t, false, got, ok, "prog", len(l))
	}
	got, ok := impl.WithProc(p, 1, 1, slices.Repeat(prog("loop"), 20))
	wantZeroUnless(t, true, got, ok, "twenty ops")
}

func TestLaidPortsAreEmpty(t *testing.T) {
	for _, items := range [][]string{nil, {}, {"x"}, {"x", "y"}, {"x", "y", "z", "z", "z", "z"}, {";"}, {"\n", strings.Repeat("x", 99)}} {
		for _, q := range []impl.Port{{Id: 5, Max: 1}, {Id: 5, Out: true, Max: 1}, {Id: 5, Queue: true, Max: 1}, {Id: 5, Out: true, Queue: true, Max: 5}} {
			want := stockedPart()
			want.Ports = slices.Insert(want.Ports, 1, q)
			q.Items = items
			if got, ok := impl.WithPort(stockedPart(), q); !ok || !same(got, want) {
				t.Error(q, got, ok)
			}
		}
	}
}

func TestLaidSemsKeepTheirNumbers(t *testing.T) {
	for _, s := range []impl.Sem{{Id: 3, N: 0, Max: 1}, {Id: 3, N: 1, Max: 1}, {Id: 1, N: 0, Max: 1000}, {Id: 1000, N: 1000, Max: 1000}} {
		got, ok := impl.WithSem(stockedPart(), s)
		if !ok || !slices.Contains(got.Sems, s) || len(got.Sems) != 3 {
			t.Error(s, got, ok)
		}
	}
}

func TestPartText(t *testing.T) {
	p := partWithProcs(testProc(1, impl.PsDormant), testProc(2, impl.PsReady), testProc(4, impl.PsSend), testProc(1000, impl.PsTake))
	p.Procs[2].Got = ""
	p.Procs[3].Wake = -1
	p.Procs[3].Prio = 50
	p.Procs[3].Since = 49
	p.Procs[3].Code = 0
	p.Procs[3].Prog = prog("take 2 -1;show 1 ")
	want := "part 3 50\n" +
		"proc 1 5 0 0 0 0 0 3 0 ;;got;sleep 4;run 5;loop\n" +
		"proc 2 5 1 1 3 0 0 3 2 ;;got;sleep 4;run 5;loop\n" +
		"proc 4 5 5 1 0 9 2 3 4 ;held;;sleep 4;run 5;loop\n" +
		"proc 1000 50 6 1 0 -1 2 0 49 ;;got;take 2 -1;show 1 \n" +
		"sem 2 1 3\nsem 4 0 1\nevent 2 1\nevent 5 0\nboard 2 1 hi you\nboard 6 0 \n" +
		"buffer 2 2;a;\nbuffer 7 5\nport 2 1 1 3;x;y z\nport 8 0 0 1;w\n"
	if got := impl.PartText(p); got != want {
		t.Errorf("%s", got)
	}
	for want, p := range map[string]impl.Part{
		"part 1 1\n":                                  {Id: 1, Next: 1},
		"part 6 1000000000\n":                         {Id: 6, Next: impl.MaxTime},
		"part 2 3\nsem 1000 1000 1000\n":              {Id: 2, Next: 3, Sems: []impl.Sem{{Id: 1000, N: 1000, Max: 1000}}},
		"part 2 3\nevent 1 0\n":                       {Id: 2, Next: 3, Events: []impl.Event{{Id: 1}}},
		"part 2 3\nboard 1 1 \n":                      {Id: 2, Next: 3, Boards: []impl.Board{{Id: 1, Shown: true}}},
		"part 2 3\nboard 1 1  x \n":                   {Id: 2, Next: 3, Boards: []impl.Board{{Id: 1, Shown: true, Text: " x "}}},
		"part 2 3\nbuffer 9 1;\n":                     {Id: 2, Next: 3, Buffers: []impl.Buffer{{Id: 9, Max: 1, Items: []string{""}}}},
		"part 2 3\nbuffer 9 5;1;2;3;4;5\n":            {Id: 2, Next: 3, Buffers: []impl.Buffer{{Id: 9, Max: 5, Items: []string{"1", "2", "3", "4", "5"}}}},
		"part 2 3\nport 9 0 1 2\n":                    {Id: 2, Next: 3, Ports: []impl.Port{{Id: 9, Queue: true, Max: 2}}},
		"part 2 3\nport 9 1 0 1;\n":                   {Id: 2, Next: 3, Ports: []impl.Port{{Id: 9, Out: true, Max: 1, Items: []string{""}}}},
		"part 2 3\nproc 1 1 0 0 0 0 0 0 0 ;;;run 1\n": {Id: 2, Next: 3, Procs: []impl.Proc{{Id: 1, Prio: 1, Prog: prog("run 1")}}},
		"part 2 3\nproc 1 1 2 0 0 2000000000 0 1 2 ;;x;run 1\n": {Id: 2, Next: 3, Procs: []impl.Proc{
			{Id: 1, Prio: 1, Prog: prog("run 1"), State: impl.PsSleep, Wake: 2000000000, Code: 1, Since: 2, Got: "x"}}},
	} {
		if got := impl.PartText(p); got != want {
			t.Errorf("%q %q", got, want)
		}
	}
}

func TestUnlikePartsHaveUnlikeTexts(t *testing.T) {
	seen := map[string]impl.Part{}
	d := &dice{state: 12}
	for range 2000 {
		p := rolledPart(d)
		s := impl.PartText(p)
		if q, ok := seen[s]; ok && !same(p, q) || s == "" {
			t.Fatalf("%q", s)
		}
		seen[s] = p
	}
}

// spoil changes one number or text of p to an edge.
func spoil(d *dice, p *impl.Part) {
	n := edgeNumbers[d.below(int64(len(edgeNumbers)))]
	if d.below(2) == 0 {
		n = d.below(12) - 1
	}
	s := edgeTexts[d.below(int64(len(edgeTexts)))]
	numbers := []*int64{&p.Id, &p.Next}
	var texts []*string
	for i := range p.Procs {
		x := &p.Procs[i]
		numbers = append(numbers, &x.Id, &x.Prio, &x.State, &x.At, &x.Left, &x.Wake, &x.On, &x.Code, &x.Since, &x.Prog[0].N, &x.Prog[0].Kind)
		texts = append(texts, &x.Held, &x.Got)
	}
	for i := range p.Sems {
		numbers = append(numbers, &p.Sems[i].Id, &p.Sems[i].N, &p.Sems[i].Max)
	}
	for i := range p.Events {
		numbers = append(numbers, &p.Events[i].Id)
	}
	for i := range p.Boards {
		numbers = append(numbers, &p.Boards[i].Id)
		texts = append(texts, &p.Boards[i].Text)
	}
	for i := range p.Buffers {
		numbers = append(numbers, &p.Buffers[i].Id, &p.Buffers[i].Max)
		p.Buffers[i].Items = append(p.Buffers[i].Items, rolledItems(d, 1)...)
	}
	for i := range p.Ports {
		numbers = append(numbers, &p.Ports[i].Id, &p.Ports[i].Max)
		if d.below(9) == 0 {
			p.Ports[i].Queue = !p.Ports[i].Queue
		}
	}
	if len(texts) > 0 && d.below(4) == 0 {
		*texts[d.below(int64(len(texts)))] = s
		return
	}
	*numbers[d.below(int64(len(numbers)))] = n
}

func TestPartCallsAtAnyArgument(t *testing.T) {
	d := &dice{state: 13}
	for range 20000 {
		p := rolledPart(d)
		for range d.below(3) {
			spoil(d, &p)
		}
		right := ruledPart(p)
		if impl.PartOk(p) != right || (impl.PartText(p) != "") != right {
			t.Fatalf("%+v: want %v", p, right)
		}
		k := kinds[d.below(int64(len(kinds)))]
		id := d.below(8)
		want := copied(p)
		k.put(&want, id)
		got, ok := k.lay(p, id)
		if ok != (right && ruledPart(want)) || ok && !same(got, want) || !ok && !same(got, impl.Part{}) {
			t.Fatalf("%s %d into %+v: %+v %v", k.name, id, p, got, ok)
		}
	}
}

func TestPartCallsKeepToThemselves(t *testing.T) {
	for _, p := range append(rightParts(), wrongParts()...) {
		for _, k := range kinds {
			wantUnwritten(t, p, func(p impl.Part) {
				impl.PartOk(p)
				impl.PartText(p)
				one, ok := k.lay(p, 9)
				two, again := k.lay(p, 9)
				if ok != again || !same(one, two) {
					t.Fatalf("%+v", p)
				}
				wantNewMemory(t, one, p, two)
			})
		}
	}
	for _, s := range []string{"run 5;loop", "loop"} {
		wantUnwritten(t, prog(s), func(l []impl.Op) {
			p, _ := impl.WithProc(impl.Part{Id: 1, Next: 1}, 1, 1, l)
			q, _ := impl.WithProc(p, 2, 1, l)
			wantNewMemory(t, q, p, l)
		})
	}
	wantUnwritten(t, []string{"x"}, func(l []string) {
		p, _ := impl.WithPort(stockedPart(), impl.Port{Id: 1, Queue: true, Max: 3, Items: l})
		wantNewMemory(t, p, l)
	})
}

// knottedPart has lists that share memory: the answers' lists must not.
func knottedPart() impl.Part {
	p := partWithProcs(testProc(1, impl.PsDormant), testProc(2, impl.PsReady), testProc(3, impl.PsSleep))
	for i := range p.Procs {
		p.Procs[i].Prog = p.Procs[0].Prog
	}
	for i := range p.Buffers {
		p.Buffers[i].Items = p.Ports[0].Items
	}
	return p
}

func TestListsOfOneAnswerShareNothing(t *testing.T) {
	p := knottedPart()
	for _, k := range kinds {
		got, ok := k.lay(p, 9)
		if !ok {
			t.Error(k.name)
		}
		wantNewMemory(t, got, p)
	}
}
