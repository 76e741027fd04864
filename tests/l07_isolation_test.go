package tests

import (
	"fmt"
	"math"
	"runtime"
	"slices"
	"strings"
	"sync"
	"testing"

	"loop.example/g00313/impl"
)

// feedCase has what feeds into the partitions 1, 2 and so on, with a bar
// between two of them.
type feedCase struct{ chans, want string }

func wantFeeds(t *testing.T, ids []int64, cases []feedCase) {
	t.Helper()
	for _, c := range cases {
		k := fedKernel(c.chans, ids...)
		if !impl.KernelOk(k) {
			t.Fatalf("%q: the case itself is not right", c.chans)
		}
		for range 2 {
			for i, want := range strings.Split(c.want, "|") {
				if got := impl.FeedsInto(k, ids[i]); !slices.Equal(got, numbersIn(want)) {
					t.Errorf("%v into %d: %v, want %s", k.Chans, ids[i], got, want)
				}
				if !slices.Equal(feedsByHand(k, ids[i]), numbersIn(want)) {
					t.Errorf("%q: by hand it is another", c.chans)
				}
			}
			slices.Reverse(k.Chans)
		}
	}
}

func TestFeedsIntoByOneChannel(t *testing.T) {
	wantFeeds(t, []int64{1, 2, 3}, []feedCase{
		{"", "1|2|3"},
		{"1>2", "1|1 2|3"},
		{"2>1", "1 2|2|3"},
		{"3>1", "1 3|2|3"},
		{"1=2", "1 2|1 2|3"},
		{"2=1", "1 2|1 2|3"},
		{"3=1", "1 3|2|1 3"},
	})
	wantFeeds(t, []int64{2, 6}, []feedCase{{"", "2|6"}, {"2>6", "2|2 6"}, {"6>2", "2 6|6"}, {"6=2", "2 6|2 6"}})
	wantFeeds(t, []int64{5}, []feedCase{{"", "5"}})
}

func TestFeedsIntoByManyChannels(t *testing.T) {
	wantFeeds(t, []int64{1, 2, 3, 4}, []feedCase{
		// In a row.
		{"1>2 2>3", "1|1 2|1 2 3|4"},
		{"1>2 2>3 3>4", "1|1 2|1 2 3|1 2 3 4"},
		{"4>3 3>2 2>1", "1 2 3 4|2 3 4|3 4|4"},
		{"3>1 1>4 4>2", "1 3|1 2 3 4|3|1 3 4"},
		{"1=2 2=3 3=4", "1 2 3 4|1 2 3 4|1 2 3 4|1 2 3 4"},
		{"1=2 2=3", "1 2 3|1 2 3|1 2 3|4"},
		{"1>2 2=3 3>4", "1|1 2 3|1 2 3|1 2 3 4"},
		{"1=2 2>3 3=4", "1 2|1 2|1 2 3 4|1 2 3 4"},
		{"1=2 2>3 3>4", "1 2|1 2|1 2 3|1 2 3 4"},
		{"1>2 2>3 3=4", "1|1 2|1 2 3 4|1 2 3 4"},
		// In a ring.
		{"1>2 2>1", "1 2|1 2|3|4"},
		{"1>2 2>3 3>1", "1 2 3|1 2 3|1 2 3|4"},
		{"1=2 2>3 3>1", "1 2 3|1 2 3|1 2 3|4"},
		{"1=2 2=3 3=4 4=1", "1 2 3 4|1 2 3 4|1 2 3 4|1 2 3 4"},
		{"1>2 2>3 3>2", "1|1 2 3|1 2 3|4"},
		{"1>2 2>1 2>3 4>3", "1 2|1 2|1 2 3 4|4"},
		// From one to many, and from many to one.
		{"1>2 1>3 1>4", "1|1 2|1 3|1 4"},
		{"1=2 1=3 1=4", "1 2 3 4|1 2 3 4|1 2 3 4|1 2 3 4"},
		{"1=2 1>3 1>4", "1 2|1 2|1 2 3|1 2 4"},
		{"1>4 2>4 3>4", "1|2|3|1 2 3 4"},
		{"1=4 2>4 3>4", "1 2 3 4|2|3|1 2 3 4"},
		{"1=4 2=4 3>4", "1 2 3 4|1 2 3 4|3|1 2 3 4"},
		// Two between two.
		{"1>2 1=2", "1 2|1 2|3|4"},
		{"1>2 1>2", "1|1 2|3|4"},
		{"1>2 2=1", "1 2|1 2|3|4"},
		// Behind a queue stands who feeds into its other end.
		{"2>1 2=3 4>3", "1 2 3 4|2 3 4|2 3 4|4"},
		{"1=3 4>3", "1 3 4|2|1 3 4|4"},
		{"1=3 3>4", "1 3|2|1 3|1 3 4"},
		{"1>2 3>4", "1|1 2|3|3 4"},
		{"1=2 3=4", "1 2|1 2|3 4|3 4"},
	})
	wantFeeds(t, []int64{1, 2, 3, 4, 5, 6}, []feedCase{
		{"1>2 2>3 3>4 4>5 5>6", "1|1 2|1 2 3|1 2 3 4|1 2 3 4 5|1 2 3 4 5 6"},
		{"6>5 5>4 4>3 3>2 2>1 1>6", strings.Repeat("|1 2 3 4 5 6", 6)[1:]},
		{"6=5 5=4 4=3 3=2 2=1", strings.Repeat("|1 2 3 4 5 6", 6)[1:]},
		{"6>1 1=5 5>2 2=4 4>3", "1 5 6|1 2 4 5 6|1 2 3 4 5 6|1 2 4 5 6|1 5 6|6"},
	})
}

// TestQueueOfAPortThatHasNoChannel says that it is the channel's Queue that
// counts, not that of another port of the same partition.
func TestQueueOfAPortThatHasNoChannel(t *testing.T) {
	k := fedKernel("1>2", 1, 2)
	k.Parts[0].Ports = append(k.Parts[0].Ports, impl.Port{Id: 2, Out: true, Queue: true, Max: 1})
	k.Parts[1].Ports = append(k.Parts[1].Ports, impl.Port{Id: 2, Queue: true, Max: 1})
	if l := impl.FeedsInto(k, 1); !slices.Equal(l, []int64{1}) {
		t.Error(l)
	}
	if l := impl.FeedsInto(spreadKernel(10), 1); !slices.Equal(l, []int64{1}) {
		t.Error(l)
	}
	if l := impl.FeedsInto(spreadKernel(10), 3); !slices.Equal(l, []int64{1, 3}) {
		t.Error(l)
	}
}

func TestFeedsIntoNoSuchPartition(t *testing.T) {
	for _, k := range []impl.Kernel{linkedKernel(), fedKernel("1=2 2=4", 1, 2, 4), {Frame: frame(1)}} {
		for _, id := range append(slices.Clone(edgeNumbers), 3, 4) {
			there := partAt(&k, id) != nil
			if l := impl.FeedsInto(k, id); (len(l) > 0) != there {
				t.Error(id, l)
			}
		}
	}
	wrong := fedKernel("1>2", 1, 2)
	wrong.Chans[0].ToPort = 2
	wantRefused(t, wrong)
}

// rolledWeb is of the six partitions, with many channels of both kinds.
func rolledWeb(d *dice) impl.Kernel {
	words := ""
	for range d.below(11) {
		from, to := 1+d.below(6), 1+d.below(6)
		if from != to && strings.Count(words, fmt.Sprint(from)) < 5 && strings.Count(words, fmt.Sprint(to)) < 5 {
			words += fmt.Sprintf(" %d%c%d", from, ">>="[d.below(3)], to)
		}
	}
	return fedKernel(words, 1, 2, 3, 4, 5, 6)
}

func TestFeedsIntoAgainstTheRules(t *testing.T) {
	sizes := map[int]int{}
	d := &dice{state: 71}
	for i := range 1000 {
		k := rolledWeb(d)
		if i%2 == 0 {
			k = rolledKernel(d)
		}
		for id := range int64(8) {
			got := impl.FeedsInto(k, id)
			if !slices.Equal(got, feedsByHand(k, id)) {
				t.Fatalf("%d: %v\n%s", id, got, kernelText(k))
			}
			sizes[len(got)]++
			if !risingNumbers(got, 6) || len(got) > 0 && !slices.Contains(got, id) {
				t.Fatal(id, got)
			}
			for _, other := range got {
				if l := impl.FeedsInto(k, other); slices.ContainsFunc(l, func(x int64) bool { return !slices.Contains(got, x) }) {
					t.Fatalf("%d feeds into %d, and %v into it\n%s", other, id, l, kernelText(k))
				}
			}
		}
	}
	for size := range 7 {
		if sizes[size] < 100 {
			t.Error("hardly any", size, sizes)
		}
	}
}

// swapBase has channels of both kinds from 2 and to it.
func swapBase() impl.Kernel {
	return kernelOf(77, "10 0:3:1 3:2:2 6:2:4", "1.1>2.1 1.2>2.2 2.3>4.1 2.4>4.2",
		lines{"part 1 9", "port 1 1 0 1;a", "port 2 1 1 3;b;c", "proc 1 5 1 0 3 0 0 0 7 ;;g;run 9;loop", "sem 1 1 2"},
		lines{"part 2 9", "port 1 0 0 1;d", "port 2 0 1 2", "port 3 1 0 1", "port 4 1 1 1;e", "port 5 0 0 1;f",
			"proc 2 5 2 0 0 90 0 0 7 ;;g;sleep 9;loop", "buffer 3 4;u;v"},
		lines{"part 4 9", "port 1 0 0 1", "port 2 0 1 4;h", "proc 3 5 0 0 0 0 0 3 0 ;;g;loop", "board 1 1 x"})
}

// wantSwapped says that Swapped changes that partition alone, or is false.
func wantSwapped(t *testing.T, want bool, k impl.Kernel, p impl.Part, what ...any) {
	t.Helper()
	byHand, can := swappedByHand(k, p)
	if can != want {
		t.Error("by hand it is another:", what)
	}
	wantUnwritten(t, k, func(k impl.Kernel) {
		wantUnwritten(t, p, func(p impl.Part) {
			got, ok := impl.Swapped(k, p)
			if ok != want || !same(got, byHand) {
				t.Errorf("%v: %v\n%s", what, ok, kernelText(got))
			}
			wantNewMemory(t, got, k, p)
			for i, q := range got.Parts {
				if q.Id != p.Id && !same(q, k.Parts[i]) || q.Id == p.Id && !same(q, p) {
					t.Error(what, impl.PartText(q))
				}
			}
			if ok && (got.Now != k.Now || !same(got.Frame, k.Frame) || !same(got.Chans, k.Chans) || len(got.Parts) != len(k.Parts)) {
				t.Error(what, kernelText(got))
			}
		})
	})
}

func TestSwappedWithTheSamePorts(t *testing.T) {
	k := swapBase()
	bare := impl.Part{Id: 2, Next: 1, Ports: copied(k.Parts[1].Ports)}
	wantSwapped(t, true, k, k.Parts[1], "itself")
	wantSwapped(t, true, k, bare, "nothing but ports")
	wantSwapped(t, true, k, lines{"part 2 1000000000", "proc 7 9 1 0 0 0 0 0 8 ;;;loop", "event 3 1"}.over(bare), "more")
	wantSwapped(t, true, k, lines{"port 1 0 0 1", "port 2 0 1 5;1;2;3;4;5", "port 3 1 0 1;z", "port 4 1 1 2"}.over(bare), "other items and other Max")
	rest := copied(bare)
	rest.Ports = rest.Ports[:4]
	wantSwapped(t, true, k, rest, "without a port that no channel has")
	wantSwapped(t, true, k, lines{"port 5 1 1 3;q"}.over(bare), "a port otherwise that no channel has")
	wantSwapped(t, true, k, lines{"port 9 1 1 3;q"}.over(rest), "a port more")
	k.Chans = nil
	for _, id := range []int64{1, 2, 4} {
		wantSwapped(t, true, k, emptyParts(id)[0], "no channels", id)
	}
	for _, id := range []int64{1, 2, 3, 4, 5, 6} {
		p := stockedPart()
		p.Id = id
		wantSwapped(t, true, impl.Kernel{Now: lastNow, Frame: frame(1), Parts: emptyParts(1, 2, 3, 4, 5, 6)}, p, id)
	}
}

func TestSwappedWithOtherPorts(t *testing.T) {
	k := swapBase()
	for i := range 4 {
		p := copied(k.Parts[1])
		p.Ports = slices.Delete(p.Ports, i, i+1)
		wantSwapped(t, false, k, p, "without the port", i)
		p = copied(k.Parts[1])
		p.Ports[i].Out = !p.Ports[i].Out
		wantSwapped(t, false, k, p, "Out otherwise", i)
		p = copied(k.Parts[1])
		p.Ports[i].Queue, p.Ports[i].Max, p.Ports[i].Items = !p.Ports[i].Queue, 1, nil
		wantSwapped(t, false, k, p, "Queue otherwise", i)
		p.Ports[i].Out = !p.Ports[i].Out
		wantSwapped(t, false, k, p, "both otherwise", i)
		k.Chans = slices.Delete(swapBase().Chans, i, i+1)
		wantSwapped(t, true, k, p, "both otherwise where no channel is", i)
		k = swapBase()
	}
	for i := range 2 {
		p := copied(k.Parts[0])
		p.Ports = slices.Delete(p.Ports, i, i+1)
		wantSwapped(t, false, k, p, "1 without the port", i)
		p = copied(k.Parts[2])
		p.Ports[i].Out = true
		wantSwapped(t, false, k, p, "4 with Out", i)
	}
	for _, id := range []int64{1, 2, 4} {
		wantSwapped(t, false, k, emptyParts(id)[0], "no ports", id)
	}
	wide := spreadKernel(3)
	p := copied(wide.Parts[0])
	p.Ports[0].Queue = true
	wantSwapped(t, false, wide, p, "two would come from one with Queue")
}

func TestSwappedWithWrongPartsAndIds(t *testing.T) {
	for _, p := range wrongParts() {
		for _, k := range []impl.Kernel{{Frame: frame(1), Parts: emptyParts(1, 2, 3, 4, 5, 6)}, swapBase(), {Frame: frame(1)}} {
			wantSwapped(t, false, k, p, p)
		}
	}
	for _, id := range append(slices.Clone(edgeNumbers), 3, 4) {
		k := swapBase()
		k.Chans = nil
		there := id == 1 || id == 2 || id == 4
		wantSwapped(t, there, k, emptyParts(id)[0], id)
		wantSwapped(t, false, impl.Kernel{Frame: frame(1)}, emptyParts(id)[0], id)
	}
}

// TestSwappedDoesNotMend has kernels that would be right with p in them.
func TestSwappedDoesNotMend(t *testing.T) {
	right := swapBase()
	for _, spoil := range []func(k *impl.Kernel){
		func(k *impl.Kernel) { k.Parts[1].Next = 0 },
		func(k *impl.Kernel) { k.Parts[1].Ports = k.Parts[1].Ports[1:] },
		func(k *impl.Kernel) { k.Parts[1].Ports[0].Out = true },
		func(k *impl.Kernel) { k.Parts[1].Ports[1].Queue, k.Parts[1].Ports[1].Max = false, 1 },
		func(k *impl.Kernel) { k.Parts[1].Procs[0].Prog = nil },
	} {
		k := swapBase()
		spoil(&k)
		wantSwapped(t, false, k, right.Parts[1], k.Parts[1])
	}
	for _, f := range wrongFrames() {
		k := swapBase()
		k.Frame = f
		wantSwapped(t, false, k, right.Parts[1], f)
	}
	for _, now := range []int64{-1, lastNow + 1, math.MaxInt64, math.MinInt64} {
		k := swapBase()
		k.Now = now
		wantSwapped(t, false, k, right.Parts[1], now)
	}
}

func TestSwappedAgainstTheRules(t *testing.T) {
	swaps := map[bool]int{}
	d := &dice{state: 72}
	for i := range 1500 {
		k := rolledKernel(d)
		if i%8 == 0 {
			spoilKernel(d, &k)
		}
		p := rolledForTicks(d)
		if there := partAt(&k, p.Id); there != nil && d.below(2) == 0 {
			p = stranger(d, k, p.Id)
		}
		if i%5 == 0 {
			spoil(d, &p)
		}
		want, can := swappedByHand(k, p)
		got, ok := impl.Swapped(k, p)
		if ok != can || !same(got, want) {
			t.Fatalf("%v\n%s\n%s\n%s", ok, kernelText(k), impl.PartText(p), kernelText(got))
		}
		swaps[ok]++
	}
	if swaps[true] < 300 || swaps[false] < 300 {
		t.Error("rolled too one-sidedly:", swaps)
	}
}

// wantRunners says that RunnersOf names just these, a word a step.
func wantRunners(t *testing.T, k impl.Kernel, want string) {
	t.Helper()
	l := numbersIn(want)
	if !impl.KernelOk(k) {
		t.Fatal("the case itself is not right", kernelText(k))
	}
	wantUnwritten(t, k, func(k impl.Kernel) {
		for n := range len(l) + 1 {
			if got, ok := impl.RunnersOf(k, int64(n)); !ok || !slices.Equal(got, l[:n]) {
				t.Errorf("%d steps: %v %v, want %v\n%s", n, got, ok, l[:n], kernelText(k))
			}
		}
	})
	if byHand, ok := runnersByHand(k, int64(len(l))); !ok || !slices.Equal(byHand, l) {
		t.Error("by hand it is another:", byHand)
	}
}

func TestRunnersOfOwners(t *testing.T) {
	// 3 has a window and is not there.
	wantRunners(t, runners(), "1001 1001 1001 2001 2001 0 0 0 4001 0 1001 1001 1001 2001")
	k := runners()
	k.Now = 6
	wantRunners(t, k, "0 0 4001 0 1001 1001 1001 2001 2001 0 0 0 4001")
	k.Parts[0].Procs[0] = dormant(k.Parts[0].Procs[0])
	k.Parts[2].Procs = nil
	wantRunners(t, k, "0 0 0 0 0 0 0 2001 2001 0 0")
	k.Frame = frame(1)
	wantRunners(t, k, "0 0 0 0 0")
	k.Frame = frame(1, window(0, 1, 2))
	wantRunners(t, k, "2001 2001 2001 2001 2001")
	k.Parts = nil
	wantRunners(t, k, "0 0 0 0 0")
}

func TestRunnersOfHighIds(t *testing.T) {
	k := kernelOf(0, "2 0:1:1 1:1:6", "", lines{"part 1 9", "proc 1000 5 1 0 0 0 0 0 7 ;;;loop"}, lines{"part 6 9", "proc 999 5 1 0 0 0 0 0 7 ;;;loop", "proc 1000 6 1 0 0 0 0 0 8 ;;;run 1"})
	wantRunners(t, k, "2000 7000 2000 6999 2000 6999")
}

// oneOwner is a kernel in which the partition 2 owns each time.
func oneOwner(now int64, l ...string) impl.Kernel {
	return kernelOf(now, "1 0:1:2", "", append(lines{"part 2 20"}, l...))
}

func TestRunnersOfByPriorityAndTurn(t *testing.T) {
	wantRunners(t, oneOwner(0, "proc 1 4 1 0 0 0 0 0 1 ;;;run 2", "proc 2 5 1 0 0 0 0 0 3 ;;;run 3", "proc 3 5 1 0 0 0 0 0 2 ;;;run 1;run 1"),
		"2003 2003 2002 2002 2002 2001 2001 0 0")
	wantRunners(t, oneOwner(0, "proc 1 4 1 0 0 0 0 0 1 ;;;start 2;run 1", "proc 2 5 0 0 0 0 0 0 0 ;;;stop 1;run 1"), "2001 2002 2002 0")
	wantRunners(t, oneOwner(0, "proc 1 4 1 0 0 0 0 0 1 ;;;signal 1;run 1", "proc 2 5 3 0 0 -1 1 0 2 ;;;wait 1 -1;run 1", "sem 1 0 1"), "2001 2002 2001 0")
	wantRunners(t, oneOwner(0, "proc 1 4 1 0 0 0 0 0 1 ;;;send 1 0 x;run 1", "proc 2 5 6 0 0 -1 1 0 2 ;;;take 1 -1", "buffer 1 1"), "2001 2001 0")
}

// TestRunnersOfEachOp says that an op is done, whatever comes of it.
func TestRunnersOfEachOp(t *testing.T) {
	things := lines{"sem 1 0 1", "event 1 0", "board 1 0 ", "buffer 1 1", "port 1 1 0 1", "port 2 0 0 1"}
	for _, s := range []string{
		"run 1", "run 2", "sleep 1", "loop", "wait 1 0", "wait 1 -1", "wait 1 5", "wait 9 5", "signal 1", "signal 9", "set 1", "set 9", "reset 1",
		"await 1 0", "await 1 -1", "await 1 5", "await 9 0", "send 1 0 x", "send 9 -1 x", "take 1 0", "take 1 -1", "take 1 5", "take 9 0", "show 1 x", "clear 1", "clear 9",
		"read 1 0", "read 1 -1", "read 1 5", "read 9 0", "write 1 x", "write 2 x", "write 9 x", "fetch 1", "fetch 2", "fetch 9", "start 7", "start 9", "stop 7", "stop 9",
	} {
		l := append(slices.Clone(things), "proc 7 5 1 0 0 0 0 0 7 ;;;"+s)
		got, ok := impl.RunnersOf(oneOwner(3, l...), 1)
		if !ok || !slices.Equal(got, []int64{2007}) {
			t.Error(s, got, ok)
		}
		wantRunners(t, oneOwner(3, append(l, "proc 8 4 1 0 0 0 0 0 8 ;;;run 9")...), "2007")
	}
}

func TestRunnersOfWokenAtJustThatTime(t *testing.T) {
	for state, s := range map[int]string{2: "0 0", 3: "1 0", 4: "1 0", 6: "1 0", 7: "1 0"} {
		words := strings.Fields(s)
		waiter := func(wake int64, rest string) lines {
			return lines{"sem 1 0 1", "event 1 0", "board 1 0 ", "buffer 1 1",
				fmt.Sprintf("proc 3 5 %d 0 0 %d %s 0 7 ;;;%s", state, wake, words[0], rest)}
		}
		wantRunners(t, oneOwner(5, waiter(8, "sleep 3;run 2")...), "0 0 0 2003 2003 0")
		wantRunners(t, oneOwner(8, waiter(8, "sleep 3;run 2")...), "2003 2003 0")
		wantRunners(t, oneOwner(9, waiter(8, "sleep 3;run 2")...), "2003 2003 0")
		wantRunners(t, oneOwner(5, append(waiter(7, "sleep 3;run 2"), "proc 2 4 1 0 0 0 0 0 8 ;;;run 9")...), "2002 2002 2003 2003 2002 2002")
		wantRunners(t, oneOwner(5, append(waiter(7, "sleep 3;run 2"), "proc 2 5 1 0 0 0 0 0 8 ;;;run 4")...), "2002 2002 2002 2002 2003 2003 0")
		// At the end of its program it is woken, but does no op.
		wantRunners(t, oneOwner(5, waiter(7, "sleep 3")...), "0 0 0 0")
		// Its time comes in that of another partition.
		k := oneOwner(5, waiter(7, "sleep 3;run 2")...)
		k.Frame = frame(6, window(3, 1, 2), window(4, 1, 1), window(5, 1, 2))
		wantRunners(t, k, "0 0 0 0 2003 0 2003")
	}
	wantRunners(t, oneOwner(0, "proc 1 5 1 0 0 0 0 0 7 ;;;sleep 3;run 1;loop"), "2001 0 0 2001 2001 2001 0 0 2001")
	wantRunners(t, oneOwner(0, "proc 1 5 1 0 0 0 0 0 7 ;;;wait 1 2;loop", "sem 1 0 1"), "2001 0 2001 2001 0 2001")
}

func TestRunnersOfCounts(t *testing.T) {
	for _, n := range append(slices.Clone(edgeNumbers), 3, 199, 200, 201, 202) {
		for _, k := range []impl.Kernel{runners(), oneOwner(0, "proc 1 5 1 0 0 0 0 0 7 ;;;loop"), {Frame: frame(1)}} {
			got, ok := impl.RunnersOf(k, n)
			if ok != within(n, 0, 200) || ok && int64(len(got)) != n || !ok && len(got) > 0 {
				t.Error(n, got, ok)
			}
			if want, _ := runnersByHand(k, min(max(n, 0), 200)); ok && !slices.Equal(got, want) {
				t.Error(n, got, want)
			}
		}
	}
}

func TestRunnersOfToTheLastTime(t *testing.T) {
	for _, k := range []impl.Kernel{runners(), {Frame: frame(1)}} {
		for _, n := range []int64{-1, 0, 1, 2, 7, 199, 200, 201, lastNow, math.MaxInt64, math.MinInt64} {
			for _, now := range []int64{-1, lastNow - 201, lastNow - 200, lastNow - 199, lastNow - 8, lastNow - 7, lastNow - 6, lastNow - 2, lastNow - 1, lastNow, lastNow + 1, math.MaxInt64} {
				k.Now = now
				got, ok := impl.RunnersOf(k, n)
				want := within(n, 0, 200) && within(now, 0, lastNow) && now+n <= lastNow
				if ok != want || ok && int64(len(got)) != n || !ok && len(got) > 0 {
					t.Error(now, n, got, ok)
				}
			}
		}
	}
	k := runners()
	k.Now = lastNow - 3
	wantRunners(t, k, "0 4001 0")
	if l, ok := impl.RunnersOf(k, 4); ok || len(l) > 0 {
		t.Error(l, ok)
	}
}

func TestRunnersOfWhereOneStepIsFalse(t *testing.T) {
	for room := range int64(6) {
		k := runners()
		k.Parts[1].Procs[0].Prog = prog("sleep 1;loop")
		k.Parts[1].Next = impl.MaxTime - 20 - room
		falses := 0
		for n := range int64(60) {
			want, fits := runnersByHand(k, n)
			got, ok := impl.RunnersOf(k, n)
			if ok != fits || !slices.Equal(got, want) {
				t.Error(room, n, got, ok, want)
			}
			if _, ran := impl.Ran(k, n); ran != ok {
				t.Error(room, n, ran, ok)
			}
			if !ok {
				falses++
			}
		}
		if falses == 0 || falses == 60 {
			t.Error(room, falses)
		}
	}
	// One whose Next is too great is no matter as long as it owns no time.
	k := runners()
	k.Parts[2].Next = impl.MaxTime
	wantRunners(t, k, "1001 1001 1001 2001 2001 0 0 0")
	if l, ok := impl.RunnersOf(k, 9); ok || len(l) > 0 {
		t.Error(l, ok)
	}
}

// partitionOf parts what RunnersOf tells. A process 1000 is told as the last
// one of its partition.
func partitionOf(runner int64) int64 {
	if runner == 0 {
		return 0
	}
	return (runner - 1) / 1000
}

func TestWhoRunsBelongsToTheOwner(t *testing.T) {
	named := 0
	d := &dice{state: 73}
	for i := range 500 {
		k := rolledKernel(d)
		if i%10 == 0 && len(k.Parts) > 0 {
			k.Parts[0].Next = impl.MaxTime - 20 - d.below(8)
		}
		if i%10 == 1 {
			k.Now = lastNow - d.below(40)
		}
		n := d.below(60)
		want, can := ranRunners(k, n)
		got, ok := impl.RunnersOf(k, n)
		if ok != can || !slices.Equal(got, want) {
			t.Fatalf("%d: %v %v want %v\n%s", n, got, ok, want, kernelText(k))
		}
		if _, ran := impl.Ran(k, n); ran != ok {
			t.Fatalf("%d: %v\n%s", n, ok, kernelText(k))
		}
		for i, r := range got {
			owner := impl.OwnerAt(k.Frame, k.Now+int64(i))
			p := partAt(&k, owner)
			if r != 0 && (partitionOf(r) != owner || p == nil || procAt(p, r-1000*owner) == nil) {
				t.Fatalf("at %d %d, owner %d\n%s", k.Now+int64(i), r, owner, kernelText(k))
			}
			if r != 0 {
				named++
			}
		}
	}
	if named < 2000 {
		t.Error("hardly any runs", named)
	}
}

// ranRunners is runnersByHand where the count may be too great for the times.
func ranRunners(k impl.Kernel, n int64) ([]int64, bool) {
	if k.Now+n > lastNow {
		return nil, false
	}
	return runnersByHand(k, n)
}

// TestRunnersInTwoPieces holds RunnersOf against the kernel that Ran leaves.
func TestRunnersInTwoPieces(t *testing.T) {
	d := &dice{state: 74}
	for range 200 {
		k := rolledKernel(d)
		first, second := d.below(40), d.below(40)
		whole, ok := impl.RunnersOf(k, first+second)
		half, one := impl.RunnersOf(k, first)
		later, _ := impl.Ran(k, first)
		rest, two := impl.RunnersOf(later, second)
		if !ok || !one || !two || !slices.Equal(whole, slices.Concat(half, rest)) {
			t.Fatalf("%d %d: %v %v %v\n%s", first, second, whole, half, rest, kernelText(k))
		}
	}
}

// timesOf are the places at which part is named, with its process.
func timesOf(l []int64, part int64) []int64 {
	own := slices.Clone(l)
	for i, r := range own {
		if partitionOf(r) != part {
			own[i] = 0
		}
	}
	return own
}

// looseKernel has few channels, so that many partitions do not feed into one.
func looseKernel(d *dice) impl.Kernel {
	k := rolledKernel(d)
	k.Chans = nil
	return linkedBy(d, k, d.below(50))
}

// TestWhatDoesNotFeedChangesNothing puts a stranger in the place of each
// partition that does not feed into another, and runs both kernels.
func TestWhatDoesNotFeedChangesNothing(t *testing.T) {
	swaps, told, fed := 0, 0, 0
	d := &dice{state: 75}
	for range 250 {
		k := looseKernel(d)
		n := 20 + d.below(60)
		ran, _ := impl.Ran(k, n)
		names, ok := impl.RunnersOf(k, n)
		if !ok {
			t.Fatal(kernelText(k))
		}
		for _, out := range k.Parts {
			other, ok := impl.Swapped(k, stranger(d, k, out.Id))
			if !ok {
				t.Fatal(kernelText(k), out.Id)
			}
			ranOther, ranOk := impl.Ran(other, n)
			namesOther, ok := impl.RunnersOf(other, n)
			if !ok || !ranOk {
				t.Fatal(kernelText(other))
			}
			for i, p := range k.Parts {
				if slices.Contains(impl.FeedsInto(k, p.Id), out.Id) {
					continue
				}
				swaps++
				if !same(ran.Parts[i], ranOther.Parts[i]) || !slices.Equal(timesOf(names, p.Id), timesOf(namesOther, p.Id)) {
					t.Fatalf("%d in the place of %d\n%s%s", out.Id, p.Id, kernelText(k), kernelText(other))
				}
				if !slices.Equal(names, namesOther) {
					told++
				}
				if len(impl.FeedsInto(k, p.Id)) > 1 {
					fed++
				}
			}
		}
	}
	if swaps < 1000 || told < 500 || fed < 200 {
		t.Error("hardly any", swaps, told, fed)
	}
}

// TestWhatFeedsMayChangeMuch has, for each way to feed, a partition in the
// place of 2 by which 1 becomes another.
func TestWhatFeedsMayChangeMuch(t *testing.T) {
	one := "proc 1 5 1 0 0 0 0 0 7 ;;;write 1 a;write 1 b;write 1 c;fetch 2;run 9"
	for s, want := range map[string]bool{"1.1>2.1": true, "2.2>1.2": true, "1.3>2.3": false, "3.3>2.3": false, "": false} {
		k := kernelOf(0, "3 0:1:1 1:1:2 2:1:3", s,
			lines{"part 1 9", "port 1 1 1 1", "port 2 0 1 1", "port 3 1 0 1", one},
			lines{"part 2 9", "port 1 0 1 1", "port 2 1 1 1", "port 3 0 0 1"},
			lines{"part 3 9", "port 3 1 0 1", "proc 1 5 1 0 0 0 0 0 7 ;;;write 3 x;loop"})
		full, ok := impl.Swapped(k, lines{"part 2 9", "port 1 0 1 1;z", "port 2 1 1 1;y", "port 3 0 0 1;x"}.over(impl.Part{}))
		if !ok {
			t.Fatal(kernelText(k))
		}
		changed := false
		for n := range int64(20) {
			a, _ := impl.Ran(k, n)
			b, _ := impl.Ran(full, n)
			changed = changed || !same(a.Parts[0], b.Parts[0])
		}
		if feeds := slices.Contains(impl.FeedsInto(k, 1), 2); feeds != want || changed != want {
			t.Error(s, feeds, changed)
		}
	}
}

func TestIsolationCallsAtAnyArgument(t *testing.T) {
	d := &dice{state: 76}
	rights := 0
	for range 1500 {
		k := rolledKernel(d)
		for range d.below(4) {
			spoilKernel(d, &k)
		}
		p := rolledForTicks(d)
		for range d.below(2) {
			spoil(d, &p)
		}
		id, n := d.below(9)-1, d.below(5)-1
		if d.below(9) == 0 {
			id, n = edgeNumbers[d.below(int64(len(edgeNumbers)))], edgeNumbers[d.below(int64(len(edgeNumbers)))]
		}
		right := ruledKernel(k)
		swapped, can := swappedByHand(k, p)
		var feeds, names []int64
		runs := false
		if right {
			rights++
			feeds = feedsByHand(k, id)
		}
		if right && within(n, 0, 200) {
			names, runs = ranRunners(k, n)
		}
		if l := impl.FeedsInto(k, id); !slices.Equal(l, feeds) {
			t.Fatal(kernelText(k), id, l)
		}
		if got, ok := impl.Swapped(k, p); ok != can || !same(got, swapped) {
			t.Fatal(kernelText(k), impl.PartText(p), got, ok)
		}
		if l, ok := impl.RunnersOf(k, n); ok != runs || !slices.Equal(l, names) {
			t.Fatal(kernelText(k), n, l, ok)
		}
	}
	if rights < 300 || rights > 1200 {
		t.Error("rolled too one-sidedly:", rights)
	}
}

func TestIsolationOfListsThatShareMemory(t *testing.T) {
	k := knottedKernel()
	was := copied(k)
	for _, p := range k.Parts {
		got, ok := impl.Swapped(k, p)
		if !ok || !same(got, was) || !same(k, was) {
			t.Errorf("%v\n%s", ok, kernelText(got))
		}
		wantNewMemory(t, got, k, p)
	}
	got, ok := impl.RunnersOf(k, 40)
	want, _ := impl.RunnersOf(was, 40)
	if !ok || !slices.Equal(got, want) || !same(k, was) {
		t.Error(got, ok, want)
	}
}

func TestIsolationCallsKeepToThemselves(t *testing.T) {
	d := &dice{state: 77}
	l := []impl.Kernel{linkedKernel(), runners(), swapBase(), spreadKernel(10), spreadKernel(11), knottedKernel(), {}, {Frame: frame(1)}}
	for i := range 200 {
		k := rolledKernel(d)
		if i%3 == 0 {
			spoilKernel(d, &k)
		}
		l = append(l, k)
	}
	for _, k := range l {
		swaps := slices.Concat(emptyParts(1, 2, 3), []impl.Part{rolledForTicks(d), knottedPart()}, k.Parts)
		wantUnwritten(t, k, func(k impl.Kernel) {
			for id := range int64(7) {
				feeds, again := impl.FeedsInto(k, id), impl.FeedsInto(k, id)
				if !slices.Equal(feeds, again) {
					t.Fatal(kernelText(k), id)
				}
				wantNewMemory(t, feeds, k, again)
			}
			for _, n := range []int64{0, 1, 7, 40} {
				names, ok := impl.RunnersOf(k, n)
				again, too := impl.RunnersOf(k, n)
				if ok != too || !slices.Equal(names, again) {
					t.Fatal(kernelText(k), n)
				}
				wantNewMemory(t, names, k, again)
			}
			for _, p := range swaps {
				wantUnwritten(t, p, func(p impl.Part) {
					got, ok := impl.Swapped(k, p)
					again, too := impl.Swapped(k, p)
					if ok != too || !same(got, again) {
						t.Fatal(kernelText(k), impl.PartText(p))
					}
					wantNewMemory(t, got, k, p, again)
				})
			}
		})
	}
}

// TestManyAskAtOnce says that calls at the same time are nothing to each
// other, and that none leaves a goroutine behind.
func TestManyAskAtOnce(t *testing.T) {
	before := runtime.NumGoroutine()
	d := &dice{state: 78}
	for i := range 20 {
		k := rolledKernel(d)
		if i%5 == 0 && len(k.Parts) > 0 {
			k.Parts[0].Next = impl.MaxTime - 20
		}
		want, can := runnersByHand(k, 60)
		var all sync.WaitGroup
		for range 8 {
			all.Go(func() {
				if got, ok := impl.RunnersOf(k, 60); ok != can || !slices.Equal(got, want) {
					t.Errorf("%v %v want %v\n%s", got, ok, want, kernelText(k))
				}
			})
		}
		all.Wait()
		impl.RunnersOf(k, 201)
	}
	// One that is done may still be counted for a moment.
	for range 1000000 {
		if runtime.NumGoroutine() <= before {
			return
		}
		runtime.Gosched()
	}
	t.Error("goroutines left:", runtime.NumGoroutine()-before)
}
