package tests

import (
	"cmp"
	"math"
	"slices"
	"testing"

	"loop.example/g00313/impl"
)

func TestCodes(t *testing.T) {
	if impl.RcDone != 0 || impl.RcNot != 1 || impl.RcTime != 2 || impl.RcNone != 3 {
		t.Error("codes")
	}
}

func TestProcOf(t *testing.T) {
	for state := range int64(states) {
		p := partInState(state)
		for _, want := range p.Procs {
			if got, ok := impl.ProcOf(p, want.Id); !ok || !same(got, want) {
				t.Error(want, got, ok)
			}
		}
		for _, id := range append([]int64{4, 9, 11, 14, 16}, edgeNumbers...) {
			if id == 5 {
				continue
			}
			if got, ok := impl.ProcOf(p, id); ok || !same(got, impl.Proc{}) {
				t.Error(id, got, ok)
			}
		}
	}
	if got, ok := impl.ProcOf(impl.Part{Id: 1, Next: 1}, 1); ok || !same(got, impl.Proc{}) {
		t.Error(got, ok)
	}
	for _, p := range wrongParts() {
		for _, id := range []int64{0, 1, 5, 10, 15} {
			if got, ok := impl.ProcOf(p, id); ok || !same(got, impl.Proc{}) {
				t.Error(p, id, got, ok)
			}
		}
	}
}

func readyProc(id, prio, since int64) impl.Proc {
	return impl.Proc{Id: id, Prio: prio, Prog: prog("run 3;loop"), State: impl.PsReady, Since: since}
}

func TestChosen(t *testing.T) {
	high := func(id, state int64) impl.Proc {
		x := testProc(id, state)
		x.Prio = 50
		return x
	}
	for i, c := range []struct {
		procs []impl.Proc
		want  int64
	}{
		{nil, 0},
		{[]impl.Proc{testProc(1, impl.PsDormant)}, 0},
		{[]impl.Proc{testProc(1, impl.PsDormant), testProc(2, impl.PsSleep), testProc(3, impl.PsSem), testProc(4, impl.PsEvent), testProc(5, impl.PsTake), testProc(6, impl.PsRead)}, 0},
		{[]impl.Proc{readyProc(7, 1, 1)}, 7},
		{[]impl.Proc{high(1, impl.PsDormant), high(2, impl.PsSleep), high(3, impl.PsSem), high(4, impl.PsSend), readyProc(5, 1, 49), high(6, impl.PsRead)}, 5},
		{[]impl.Proc{readyProc(1, 3, 1), readyProc(2, 4, 2)}, 2},
		{[]impl.Proc{readyProc(1, 4, 2), readyProc(2, 3, 1)}, 1},
		{[]impl.Proc{readyProc(1, 3, 9), readyProc(2, 3, 8), readyProc(3, 3, 10)}, 2},
		{[]impl.Proc{readyProc(1, 3, 1), readyProc(2, 3, 2), readyProc(3, 3, 3)}, 1},
		{[]impl.Proc{readyProc(1, 3, 3), readyProc(2, 3, 2), readyProc(3, 3, 1)}, 3},
		{[]impl.Proc{readyProc(1, 1, 1), readyProc(2, 50, 49), readyProc(3, 50, 48), readyProc(4, 49, 2)}, 3},
		{[]impl.Proc{readyProc(1, 2, 6), readyProc(2, 2, 5), readyProc(3, 2, 4), readyProc(4, 2, 3), readyProc(5, 2, 2), readyProc(6, 2, 1)}, 6},
	} {
		if got := impl.Chosen(partWithProcs(c.procs...)); got != c.want {
			t.Error(i, got, c.want)
		}
	}
	for _, p := range wrongParts() {
		if got := impl.Chosen(p); got != 0 {
			t.Error(p, got)
		}
	}
}

func TestNoReadyOneIsAheadOfTheChosen(t *testing.T) {
	d := &dice{state: 14}
	for range 3000 {
		p := rolledPart(d)
		x, ok := impl.ProcOf(p, impl.Chosen(p))
		for _, y := range p.Procs {
			if y.State == impl.PsReady && (!ok || y.Prio > x.Prio || y.Prio == x.Prio && y.Since < x.Since) {
				t.Fatalf("%d of %+v", x.Id, p.Procs)
			}
		}
		if ok && x.State != impl.PsReady {
			t.Fatal(x)
		}
	}
}

func TestStartedInEachState(t *testing.T) {
	for state := range int64(states) {
		p := partInState(state)
		got, ok := impl.Started(p, 10)
		want := impl.Part{}
		if state == impl.PsDormant {
			want = copied(p)
			want.Procs[1].State, want.Procs[1].Since, want.Next = impl.PsReady, 50, 51
		}
		if ok != (state == impl.PsDormant) || !same(got, want) {
			t.Error(state, got, ok)
		}
	}
}

func dormant(x impl.Proc) impl.Proc {
	return impl.Proc{Id: x.Id, Prio: x.Prio, Prog: x.Prog, Got: x.Got, Code: x.Code}
}

func TestStoppedInEachState(t *testing.T) {
	for state := range int64(states) {
		p := partInState(state)
		got, ok := impl.Stopped(p, 10)
		want := impl.Part{}
		if state != impl.PsDormant {
			want = copied(p)
			want.Procs[1] = dormant(want.Procs[1])
		}
		if ok != (state != impl.PsDormant) || !same(got, want) {
			t.Error(state, got, ok)
		}
	}
}

func TestStartedAndStoppedAtTheLimitOfTurns(t *testing.T) {
	for next, can := range map[int64]bool{16: true, impl.MaxTime - 20: true, impl.MaxTime - 1: true, impl.MaxTime: false} {
		p := partInState(impl.PsDormant)
		p.Next = next
		got, ok := impl.Started(p, 10)
		if ok != can || can && (got.Next != next+1 || got.Procs[1].Since != next || !impl.PartOk(got)) || !can && !same(got, impl.Part{}) {
			t.Error(next, got, ok)
		}
		p = partInState(impl.PsReady)
		p.Next = next
		if got, ok := impl.Stopped(p, 10); !ok || got.Next != next || got.Procs[1].State != impl.PsDormant {
			t.Error(next, got, ok)
		}
	}
}

func TestStartedAndStoppedWithoutSuchAProcess(t *testing.T) {
	for _, start := range []func(impl.Part, int64) (impl.Part, bool){impl.Started, impl.Stopped} {
		for state := range int64(states) {
			for _, id := range append([]int64{4, 9, 11, 16}, edgeNumbers...) {
				if got, ok := start(partInState(state), id); id != 5 && (ok || !same(got, impl.Part{})) {
					t.Error(state, id, got, ok)
				}
			}
		}
		for _, p := range wrongParts() {
			for _, id := range []int64{0, 1, 5, 10, 15} {
				if got, ok := start(p, id); ok || !same(got, impl.Part{}) {
					t.Error(p, id, got, ok)
				}
			}
		}
	}
}

func TestTheStartedComeInTheirOrder(t *testing.T) {
	p := impl.Part{Id: 1, Next: 1}
	for id := int64(1); id <= 6; id++ {
		p, _ = impl.WithProc(p, id, 9, prog("run 2"))
	}
	order := []int64{4, 1, 6, 3, 2, 5}
	for _, id := range order {
		p, _ = impl.Started(p, id)
	}
	for _, id := range order {
		if impl.Chosen(p) != id {
			t.Error(impl.Chosen(p), id)
		}
		p, _ = impl.Stopped(p, id)
	}
	if impl.Chosen(p) != 0 || p.Next != 7 {
		t.Error(p)
	}
	p, ok := impl.Started(p, 4)
	if x, there := impl.ProcOf(p, 4); !ok || !there || x.Since != 7 || p.Next != 8 {
		t.Error(p, ok)
	}
}

// wokenByHand is Woken as chapter 4 has it, on a right partition.
func wokenByHand(p impl.Part, now int64) impl.Part {
	p = copied(p)
	var due []*impl.Proc
	for i := range p.Procs {
		if x := &p.Procs[i]; x.State >= impl.PsSleep && within(x.Wake, 1, now) {
			due = append(due, x)
		}
	}
	slices.SortFunc(due, func(a, b *impl.Proc) int { return cmp.Or(cmp.Compare(a.Wake, b.Wake), cmp.Compare(a.Id, b.Id)) })
	for _, x := range due {
		x.Code = impl.RcTime
		if x.State == impl.PsSleep {
			x.Code = impl.RcDone
		}
		at := x.At + 1
		*x = dormant(*x)
		if at < int64(len(x.Prog)) {
			x.State, x.At, x.Since = impl.PsReady, at, p.Next
			p.Next++
		}
	}
	return p
}

func TestWokenAtJustTheTime(t *testing.T) {
	for state := int64(impl.PsSleep); state < states; state++ {
		for _, wake := range []int64{1, 9, 1000, impl.MaxTime} {
			for _, now := range []int64{0, wake - 1, wake, wake + 1, impl.MaxTime} {
				p := partWithProcs(testProc(5, impl.PsReady), testProc(10, state))
				setWake(&p, wake)
				want := copied(p)
				if x := &want.Procs[1]; wake <= now {
					x.State, x.At, x.Wake, x.On, x.Held, x.Code, x.Since = impl.PsReady, 2, 0, 0, "", impl.RcTime, 50
					if state == impl.PsSleep {
						x.Code = impl.RcDone
					}
					want.Next = 51
				}
				got, ok := impl.Woken(p, now)
				if in := within(now, 0, impl.MaxTime); ok != in || in && !same(got, want) || !in && !same(got, impl.Part{}) {
					t.Error(state, wake, now, got, ok)
				}
			}
		}
	}
}

func TestWokenAtTheEndOfTheProgram(t *testing.T) {
	for state := int64(impl.PsSleep); state < states; state++ {
		p := partInState(state)
		setAt(&p, 2)
		want := copied(p)
		want.Procs[1] = dormant(want.Procs[1])
		want.Procs[1].Code = impl.RcTime
		if state == impl.PsSleep {
			want.Procs[1].Code = impl.RcDone
		}
		want.Procs[2].Wake = 10
		p.Procs[2].Wake = 10
		got, ok := impl.Woken(p, 9)
		if !ok || !same(got, want) || got.Next != 50 {
			t.Error(state, got, ok)
		}
	}
}

func sleeper(id, prio, wake, at int64) impl.Proc {
	return impl.Proc{Id: id, Prio: prio, Prog: prog("sleep 1;loop"), State: impl.PsSleep, At: at, Wake: wake, Since: 40 - id}
}

func TestWokenByWakeThenById(t *testing.T) {
	// Neither Prio nor Since has a say; those at the end take no turn.
	p := partWithProcs(sleeper(1, 9, 7, 0), sleeper(2, 1, 5, 0), sleeper(3, 5, 7, 1), sleeper(4, 50, 7, 0), sleeper(5, 2, 5, 0), sleeper(6, 3, 8, 0))
	got, ok := impl.Woken(p, 7)
	if !ok || got.Next != 54 {
		t.Error(got, ok)
	}
	for i, want := range []struct{ state, at, since int64 }{{1, 1, 52}, {1, 1, 50}, {0, 0, 0}, {1, 1, 53}, {1, 1, 51}, {2, 0, 34}} {
		if x := got.Procs[i]; x.State != want.state || x.At != want.at || x.Since != want.since {
			t.Errorf("%+v: want %+v", x, want)
		}
	}
	if !same(got, wokenByHand(p, 7)) {
		t.Error(got)
	}
}

func TestTwoWhoseTimeComesAtOnce(t *testing.T) {
	for a := int64(impl.PsSleep); a < states; a++ {
		for b := int64(impl.PsSleep); b < states; b++ {
			for at := range int64(2) {
				x, y := testProc(3, a), testProc(7, b)
				x.Since, y.Since = 30, 20
				x.At, y.At = 1+at, 2-at
				p := partWithProcs(x, y)
				got, ok := impl.Woken(p, 9)
				if !ok || !same(got, wokenByHand(p, 9)) || got.Next != 51 {
					t.Error(a, b, at, got, ok)
				}
				y.At, x.At = 0, 0
				p = partWithProcs(x, y)
				got, ok = impl.Woken(p, 9)
				if !ok || got.Procs[0].Since != 50 || got.Procs[1].Since != 51 || got.Next != 52 || !same(got, wokenByHand(p, 9)) {
					t.Error(a, b, at, got, ok)
				}
			}
		}
	}
}

func TestNoneIsWokenWithoutATime(t *testing.T) {
	for state := int64(impl.PsSem); state < states; state++ {
		p := partWithProcs(testProc(5, impl.PsReady), testProc(10, state))
		setWake(&p, -1)
		for _, now := range []int64{0, 1, 9, impl.MaxTime} {
			if got, ok := impl.Woken(p, now); !ok || !same(got, p) {
				t.Error(state, now, got, ok)
			}
		}
	}
	for _, p := range []impl.Part{{Id: 1, Next: 1}, stockedPart(), partWithProcs(testProc(1, impl.PsDormant), testProc(2, impl.PsReady))} {
		if got, ok := impl.Woken(p, impl.MaxTime); !ok || !same(got, p) {
			t.Error(got, ok)
		}
	}
	late := partInState(impl.PsSleep)
	late.Procs[1].Wake, late.Procs[2].Wake = impl.MaxTime+1, 2*impl.MaxTime
	if got, ok := impl.Woken(late, impl.MaxTime); !ok || !same(got, late) {
		t.Error(got, ok)
	}
}

func TestWokenRefusesTimesAndTurns(t *testing.T) {
	for _, now := range edgeNumbers {
		p := partInState(impl.PsSem)
		got, ok := impl.Woken(p, now)
		want := impl.Part{}
		if within(now, 0, impl.MaxTime) {
			want = wokenByHand(p, now)
		}
		if ok != within(now, 0, impl.MaxTime) || !same(got, want) {
			t.Error(now, got, ok)
		}
	}
	six := partWithProcs(sleeper(1, 1, 5, 0), sleeper(2, 1, 5, 0), sleeper(3, 1, 5, 0), sleeper(4, 1, 5, 0), sleeper(5, 1, 5, 0), sleeper(6, 1, 5, 0))
	for next, want := range map[int64]bool{impl.MaxTime - 21: true, impl.MaxTime - 20: true, impl.MaxTime - 19: false, impl.MaxTime: false, impl.MaxTime + 1: false, math.MaxInt64: false} {
		for _, now := range []int64{0, 5} {
			six.Next = next
			got, ok := impl.Woken(six, now)
			if ok != want || want && (!same(got, wokenByHand(six, now)) || !impl.PartOk(got)) || !want && !same(got, impl.Part{}) {
				t.Error(next, got, ok)
			}
		}
	}
	for _, p := range wrongParts() {
		if got, ok := impl.Woken(p, 9); ok || !same(got, impl.Part{}) {
			t.Error(p, got, ok)
		}
	}
}

func TestProcessCallsAtAnyArgument(t *testing.T) {
	d := &dice{state: 15}
	for i := range 20000 {
		p := rolledPart(d)
		if i%2 == 0 {
			spoil(d, &p)
		}
		right := ruledPart(p)
		id, now := d.below(8), d.below(8)-1
		at := slices.IndexFunc(p.Procs, func(x impl.Proc) bool { return x.Id == id })
		there := right && at >= 0
		x, ok := impl.ProcOf(p, id)
		if ok != there || there && !same(x, p.Procs[at]) {
			t.Fatalf("%+v %d %+v %v", p, id, x, ok)
		}
		asleep := there && p.Procs[at].State == impl.PsDormant
		started, ok := impl.Started(p, id)
		if ok != (asleep && p.Next < impl.MaxTime) || ok && (!ruledPart(started) || started.Procs[at].Since != p.Next) {
			t.Fatalf("%+v %d %+v %v", p, id, started, ok)
		}
		stopped, ok := impl.Stopped(p, id)
		if ok != (there && !asleep) || ok && (!ruledPart(stopped) || !same(stopped.Procs[at], dormant(p.Procs[at]))) {
			t.Fatalf("%+v %d %+v %v", p, id, stopped, ok)
		}
		woken, ok := impl.Woken(p, now)
		if ok != (right && now >= 0 && p.Next <= impl.MaxTime-20) || ok && (!ruledPart(woken) || !same(woken, wokenByHand(p, now))) {
			t.Fatalf("%+v %d %+v %v", p, now, woken, ok)
		}
	}
}

func TestProcessCallsKeepToThemselves(t *testing.T) {
	for _, p := range append(rightParts(), wrongParts()...) {
		for _, id := range []int64{1, 2, 3, 4, 5, 10, 15, 991} {
			wantUnwritten(t, p, func(p impl.Part) {
				impl.Chosen(p)
				for range 2 {
					x, _ := impl.ProcOf(p, id)
					wantNewMemory(t, x, p)
					started, _ := impl.Started(p, id)
					wantNewMemory(t, started, p, x)
					stopped, _ := impl.Stopped(p, id)
					wantNewMemory(t, stopped, p, x, started)
					woken, _ := impl.Woken(p, 9)
					wantNewMemory(t, woken, p, x, started, stopped)
				}
			})
		}
	}
	p := knottedPart()
	started, _ := impl.Started(p, 1)
	stopped, _ := impl.Stopped(p, 2)
	woken, ok := impl.Woken(p, 9)
	if !ok || len(started.Procs) != 3 || len(stopped.Procs) != 3 {
		t.Error(started, stopped, woken)
	}
	wantNewMemory(t, started, p)
	wantNewMemory(t, stopped, p)
	wantNewMemory(t, woken, p)
}
