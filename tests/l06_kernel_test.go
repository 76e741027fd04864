package tests

import (
	"fmt"
	"math"
	"slices"
	"strings"
	"testing"

	"loop.example/g00313/impl"
)

// linkedKernel is at a time that 3 owns, which is not there.
func linkedKernel() impl.Kernel {
	return kernelOf(7, "10 0:3:1 3:2:2 6:2:3 8:1:4", "1.1>2.1 1.2>2.2 1.1>4.1 4.4>1.4 2.3>1.3 2.4>4.2",
		lines{"part 1 50", "port 1 1 0 1;a", "port 2 1 1 3;q;r", "port 3 0 0 1", "port 4 0 1 2", "port 5 1 1 2;u",
			"proc 1 5 1 0 0 0 0 3 7 ;;g;run 9;write 1 b;loop", "sem 2 1 3"},
		lines{"part 2 60", "port 1 0 0 1", "port 2 0 1 2;p", "port 3 1 0 1", "port 4 1 1 1;v", "port 5 0 1 1",
			"proc 2 5 2 0 0 90 0 3 7 ;;g;sleep 9;fetch 1;loop", "board 2 1 hi"},
		lines{"part 4 70", "port 1 0 0 1;z", "port 2 0 1 5;a", "port 3 0 0 1", "port 4 1 1 2;s;t", "port 5 1 0 1",
			"proc 3 5 0 0 0 0 0 3 0 ;;g;loop", "buffer 2 2;x"})
}

// wantRefused says that each call that asks for a right kernel refuses k.
func wantRefused(t *testing.T, k impl.Kernel, what ...any) {
	t.Helper()
	if impl.KernelOk(k) || ruledKernel(k) {
		t.Error("wrong, but accepted:", what)
	}
	for id := range int64(8) {
		if p, ok := impl.PartOf(k, id); ok || !same(p, impl.Part{}) {
			t.Error("PartOf", what, id, p, ok)
		}
		if c, ok := impl.Carried(k, id); ok || !same(c, impl.Kernel{}) {
			t.Error("Carried", what, id, c, ok)
		}
		if l := impl.FeedsInto(k, id); len(l) > 0 {
			t.Error("FeedsInto", what, id, l)
		}
	}
	for _, p := range slices.Concat(k.Parts, emptyParts(1, 2, 3, 4, 5, 6)) {
		if s, ok := impl.Swapped(k, p); ok || !same(s, impl.Kernel{}) {
			t.Error("Swapped", what, p, s, ok)
		}
	}
	if s, ok := impl.Stepped(k); ok || !same(s, impl.Kernel{}) {
		t.Error("Stepped", what, s, ok)
	}
	for _, n := range []int64{-1, 0, 1, 2, 200, 201} {
		if r, ok := impl.Ran(k, n); ok || !same(r, impl.Kernel{}) {
			t.Error("Ran", what, n, r, ok)
		}
		if l, ok := impl.RunnersOf(k, n); ok || len(l) > 0 {
			t.Error("RunnersOf", what, n, l, ok)
		}
	}
}

func wantKernel(t *testing.T, want bool, k impl.Kernel, what ...any) {
	t.Helper()
	if !want {
		wantRefused(t, k, what...)
		return
	}
	if !impl.KernelOk(k) || !ruledKernel(k) {
		t.Error("right, but refused:", what)
	}
	if r, ok := impl.Ran(k, 0); !ok || !same(r, k) {
		t.Error("no steps change nothing:", what, kernelText(r), ok)
	}
	for _, p := range k.Parts {
		if s, ok := impl.Swapped(k, p); !ok || !same(s, k) {
			t.Error("one in its own place changes nothing:", what, p.Id, kernelText(s), ok)
		}
	}
}

func TestTimesOfKernels(t *testing.T) {
	for _, now := range append(slices.Clone(edgeNumbers), lastNow-1, lastNow, lastNow+1, 2*lastNow) {
		for _, k := range []impl.Kernel{linkedKernel(), {Frame: frame(1)}} {
			k.Now = now
			wantKernel(t, within(now, 0, lastNow), k, now)
		}
	}
}

func TestFramesOfKernels(t *testing.T) {
	k := linkedKernel()
	for _, f := range rightFrames() {
		k.Frame = f
		wantKernel(t, true, k, f)
	}
	for _, f := range wrongFrames() {
		k.Frame = f
		wantRefused(t, k, f)
		wantRefused(t, impl.Kernel{Frame: f}, f)
	}
	wantRefused(t, impl.Kernel{})
}

func TestPartsOfKernels(t *testing.T) {
	for _, p := range rightParts() {
		wantKernel(t, true, impl.Kernel{Frame: frame(1), Parts: []impl.Part{p}}, p)
	}
	for _, p := range wrongParts() {
		wantRefused(t, impl.Kernel{Frame: frame(1), Parts: []impl.Part{p}}, p)
		for place := range 4 {
			k := linkedKernel()
			k.Parts = slices.Insert(k.Parts, place, p)
			wantRefused(t, k, p, place)
		}
	}
}

func emptyParts(ids ...int64) []impl.Part {
	var l []impl.Part
	for _, id := range ids {
		l = append(l, impl.Part{Id: id, Next: 1})
	}
	return l
}

func TestIdsOfPartitionsRise(t *testing.T) {
	for _, c := range []struct {
		ids  []int64
		want bool
	}{
		{nil, true}, {[]int64{1}, true}, {[]int64{6}, true}, {[]int64{0}, false}, {[]int64{7}, false}, {[]int64{-1, 1}, false},
		{[]int64{1, 2}, true}, {[]int64{1, 6}, true}, {[]int64{2, 1}, false}, {[]int64{1, 1}, false}, {[]int64{6, 6}, false}, {[]int64{6, 1}, false},
		{[]int64{2, 3, 5}, true}, {[]int64{2, 5, 3}, false}, {[]int64{5, 2, 3}, false}, {[]int64{2, 2, 3}, false}, {[]int64{2, 3, 3}, false},
		{[]int64{1, 2, 1}, false}, {[]int64{1, 2, 3, 4, 5}, true}, {[]int64{1, 2, 3, 4, 5, 6}, true}, {[]int64{6, 5, 4, 3, 2, 1}, false},
		{[]int64{1, 2, 3, 4, 5, 6, 7}, false}, {[]int64{0, 1, 2, 3, 4, 5, 6}, false}, {[]int64{1, 2, 3, 4, 5, 6, 6}, false}, {[]int64{1, 1, 2, 3, 4, 5, 6}, false},
	} {
		wantKernel(t, c.want, impl.Kernel{Frame: frame(1), Parts: emptyParts(c.ids...)}, c.ids)
	}
	k := linkedKernel()
	k.Parts[0], k.Parts[1] = k.Parts[1], k.Parts[0]
	wantRefused(t, k, "two in each other's place")
}

func TestChannels(t *testing.T) {
	for s, want := range map[string]bool{
		"": true, "1.1>2.1": true, "1.2>2.2": true, "4.4>2.5": true, "2.3>4.3": true,
		// One partition; partitions and ports that are not there.
		"1.1>1.3": false, "1.2>1.4": false, "2.4>2.5": false, "4.5>4.1": false,
		"3.1>2.1": false, "0.1>2.1": false, "7.1>2.1": false, "-1.1>2.1": false, "5.1>2.1": false,
		"1.1>3.1": false, "1.1>0.1": false, "1.1>7.1": false, "1.1>6.1": false, "3.1>3.1": false,
		"1.6>2.1": false, "1.0>2.1": false, "1.-1>2.1": false, "1.1001>2.1": false, "1.1>2.6": false, "1.1>2.0": false, "1.1>2.1001": false,
		// From one that is not Out, or to one that is.
		"1.3>2.1": false, "1.1>2.3": false, "1.3>2.3": false, "1.4>2.2": false, "1.2>2.4": false, "1.4>2.4": false,
		// Queue at one end alone.
		"1.1>2.2": false, "1.2>2.1": false, "4.4>1.3": false, "2.3>1.4": false,
		// Two that lead to one port.
		"1.1>4.1 2.3>4.1": false, "1.2>4.2 2.4>4.2": false, "1.2>2.2 1.5>2.2": false, "1.1>2.1 1.1>2.1": false, "1.2>2.2 1.2>2.2": false,
		"1.1>4.1 1.1>4.3 1.1>2.1 2.3>4.1": false,
		// Ports of two partitions with one number are two.
		"1.1>2.1 2.3>4.1": true, "1.2>2.2 2.4>4.2": true, "2.4>1.4 4.4>2.5": true, "1.2>2.2 2.4>1.4": true,
		// Two that come from one port.
		"1.1>2.1 1.1>4.1": true, "1.1>4.1 1.1>4.3": true, "1.1>2.1 1.1>4.1 1.1>4.3": true, "2.3>4.1 1.1>2.1 2.3>1.3": true,
		"1.2>2.2 1.2>4.2": false, "1.2>2.2 1.2>2.5": false, "1.2>2.2 4.4>1.4 1.2>4.2": false, "1.2>2.2 1.5>2.5": true, "1.2>4.2 1.5>2.2 4.4>2.5": true,
	} {
		k := linkedKernel()
		k.Chans = chansOf(s)
		wantKernel(t, want, k, s)
		slices.Reverse(k.Chans)
		wantKernel(t, want, k, s, "reversed")
	}
	for _, n := range edgeNumbers {
		for field := range 4 {
			k := linkedKernel()
			k.Chans = chansOf("1.1>2.1")
			c := &k.Chans[0]
			*[]*int64{&c.From, &c.FromPort, &c.To, &c.ToPort}[field] = n
			wantKernel(t, ruledKernel(k), k, field, n)
		}
	}
}

// spreadKernel has one port without Queue from which n channels come.
func spreadKernel(n int) impl.Kernel {
	k := impl.Kernel{Frame: frame(1, window(0, 1, 1)), Parts: emptyParts(1, 2, 3, 4, 5, 6)}
	k.Parts[0].Ports = []impl.Port{{Id: 9, Out: true, Max: 1, Items: []string{"x"}}}
	for id := int64(2); id <= 6; id++ {
		for port := int64(1); port <= 5; port++ {
			p := partAt(&k, id)
			p.Ports = append(p.Ports, impl.Port{Id: port, Max: 1})
			if len(k.Chans) < n {
				k.Chans = append(k.Chans, impl.Chan{From: 1, FromPort: 9, To: id, ToPort: port})
			}
		}
	}
	return k
}

func TestNumberOfChannels(t *testing.T) {
	for n := range 26 {
		k := spreadKernel(n)
		wantKernel(t, n <= 10, k, n)
		got, ok := impl.Carried(k, 1)
		if ok != (n <= 10) {
			t.Error(n, ok)
		}
		full := 0
		for _, p := range got.Parts {
			for _, q := range p.Ports {
				full += len(q.Items)
			}
		}
		if ok && full != n+1 {
			t.Error(n, full)
		}
	}
	k := linkedKernel()
	k.Chans = slices.Repeat(chansOf("1.1>2.1"), 5000)
	wantRefused(t, k, "very many")
}

func TestPartOf(t *testing.T) {
	k := linkedKernel()
	for _, id := range append(slices.Clone(edgeNumbers), 3, 4) {
		p, ok := impl.PartOf(k, id)
		there := partAt(&k, id)
		if ok != (there != nil) || ok && !same(p, *there) || !ok && !same(p, impl.Part{}) {
			t.Error(id, p, ok)
		}
		if p, ok := impl.PartOf(impl.Kernel{Frame: frame(1)}, id); ok || !same(p, impl.Part{}) {
			t.Error(id, p, ok)
		}
	}
	k.Parts = emptyParts(1, 2, 3, 4, 5, 6)
	k.Chans = nil
	for id := int64(1); id <= 6; id++ {
		if p, ok := impl.PartOf(k, id); !ok || p.Id != id {
			t.Error(id, p, ok)
		}
	}
}

// withLines is k with these lines laid over, each behind the Id of its
// partition and a colon.
func withLines(k impl.Kernel, l lines) impl.Kernel {
	k = copied(k)
	for _, line := range l {
		id, rest, _ := strings.Cut(line, ":")
		putLine(partAt(&k, numbersIn(id)[0]), rest)
	}
	return k
}

// wantCarried says that Carried changes these lines alone.
func wantCarried(t *testing.T, k impl.Kernel, from int64, changed ...string) {
	t.Helper()
	want := withLines(k, changed)
	if !impl.KernelOk(k) || !impl.KernelOk(want) {
		t.Fatalf("the case itself is not right: %q", changed)
	}
	wantUnwritten(t, k, func(k impl.Kernel) {
		got, ok := impl.Carried(k, from)
		if !ok || !same(got, want) {
			t.Errorf("from %d %v:\n%swant\n%s", from, ok, kernelText(got), kernelText(want))
		}
		wantNewMemory(t, got, k)
	})
	if !same(carriedByHand(k, from), want) {
		t.Errorf("%q: by hand it is another", changed)
	}
}

func TestCarriedByEachChannelFromThePartition(t *testing.T) {
	k := linkedKernel()
	wantCarried(t, k, 1, "2:port 1 0 0 1;a", "1:port 2 1 1 3;r", "2:port 2 0 1 2;p;q", "4:port 1 0 0 1;a")
	wantCarried(t, k, 2, "2:port 4 1 1 1", "4:port 2 0 1 5;a;v")
	wantCarried(t, k, 4, "4:port 4 1 1 2", "1:port 4 0 1 2;s;t")
	k.Chans = chansOf("1.1>2.1 1.2>2.2 1.1>4.1")
	wantCarried(t, k, 2)
	wantCarried(t, k, 4)
	k.Chans = nil
	for _, id := range []int64{1, 2, 4} {
		wantCarried(t, k, id)
	}
	k.Chans = chansOf("1.5>2.5 1.2>4.2")
	wantCarried(t, k, 1, "1:port 5 1 1 2", "2:port 5 0 1 1;u", "1:port 2 1 1 3", "4:port 2 0 1 5;a;q;r")
	k.Chans = chansOf("1.2>4.2 1.5>2.5")
	wantCarried(t, k, 1, "1:port 5 1 1 2", "2:port 5 0 1 1;u", "1:port 2 1 1 3", "4:port 2 0 1 5;a;q;r")
}

// carryCase has the ports of one channel ahead of it and behind it.
type carryCase struct{ source, target, sourceThen, targetThen string }

func wantCarryCases(t *testing.T, cases []carryCase) {
	t.Helper()
	for _, c := range cases {
		k := linkedKernel()
		k.Chans = chansOf("4.5>2.1 1.7>4.8 2.4>1.4")
		k.Parts[0].Ports, k.Parts[2].Ports = k.Parts[0].Ports[3:], k.Parts[2].Ports[4:]
		putLine(&k.Parts[0], "port 7 1 "+c.source)
		putLine(&k.Parts[2], "port 8 0 "+c.target)
		wantCarried(t, k, 1, "1:port 7 1 "+c.sourceThen, "4:port 8 0 "+c.targetThen)
	}
}

func TestCarriedWithoutQueue(t *testing.T) {
	wantCarryCases(t, []carryCase{
		{"0 1", "0 1", "0 1", "0 1"},
		{"0 1", "0 1;y", "0 1", "0 1;y"},
		{"0 1", "0 1;", "0 1", "0 1;"},
		{"0 1;x", "0 1", "0 1;x", "0 1;x"},
		{"0 1;x", "0 1;y", "0 1;x", "0 1;x"},
		{"0 1;x", "0 1;x", "0 1;x", "0 1;x"},
		{"0 1;", "0 1;y", "0 1;", "0 1;"},
		{"0 1;", "0 1", "0 1;", "0 1;"},
	})
}

func TestCarriedWithQueue(t *testing.T) {
	wantCarryCases(t, []carryCase{
		// No item.
		{"1 3", "1 2", "1 3", "1 2"},
		{"1 3", "1 2;y", "1 3", "1 2;y"},
		{"1 3", "1 2;y;z", "1 3", "1 2;y;z"},
		// Fewer than there is room for.
		{"1 3;a", "1 2", "1 3", "1 2;a"},
		{"1 3;a;b", "1 5;y;z", "1 3", "1 5;y;z;a;b"},
		{"1 3;", "1 5;y", "1 3", "1 5;y;"},
		// Just as many.
		{"1 1;a", "1 1", "1 1", "1 1;a"},
		{"1 3;a;b", "1 3;y", "1 3", "1 3;y;a;b"},
		{"1 5;a;b;c;d;e", "1 5", "1 5", "1 5;a;b;c;d;e"},
		// More.
		{"1 3;a;b", "1 1", "1 3;b", "1 1;a"},
		{"1 5;a;b;c;d;e", "1 3;y", "1 5;c;d;e", "1 3;y;a;b"},
		{"1 5;a;a;a;a;a", "1 5;a", "1 5;a", "1 5;a;a;a;a;a"},
		// Into one that is full.
		{"1 3;a", "1 1;y", "1 3;a", "1 1;y"},
		{"1 3;a;b;c", "1 2;y;z", "1 3;a;b;c", "1 2;y;z"},
		{"1 5;a;b;c;d;e", "1 5;1;2;3;4;5", "1 5;a;b;c;d;e", "1 5;1;2;3;4;5"},
	})
}

func TestCarriedGoesOneChannelFar(t *testing.T) {
	k := kernelOf(0, "1", "1.1>2.1 2.2>3.1 3.2>1.2", lines{"part 1 1", "port 1 1 1 2;a", "port 2 0 1 2"},
		lines{"part 2 1", "port 1 0 1 2", "port 2 1 1 2;b"}, lines{"part 3 1", "port 1 0 1 2", "port 2 1 1 2;c"})
	wantCarried(t, k, 1, "1:port 1 1 1 2", "2:port 1 0 1 2;a")
	wantCarried(t, k, 2, "2:port 2 1 1 2", "3:port 1 0 1 2;b")
	wantCarried(t, k, 3, "3:port 2 1 1 2", "1:port 2 0 1 2;c")
}

func TestCarriedFromNoSuchPartition(t *testing.T) {
	for _, k := range []impl.Kernel{linkedKernel(), {Frame: frame(1)}} {
		for _, id := range append(slices.Clone(edgeNumbers), 3) {
			got, ok := impl.Carried(k, id)
			if there := partAt(&k, id) != nil; ok != there || !ok && !same(got, impl.Kernel{}) {
				t.Error(id, got, ok)
			}
		}
	}
}

// TestCarriedLosesAndDoublesNothing holds the items of both ports of a
// channel with Queue, one behind the other, against those ahead of it.
func TestCarriedLosesAndDoublesNothing(t *testing.T) {
	d := &dice{state: 61}
	carried := 0
	for range 800 {
		k := rolledKernel(d)
		for _, p := range k.Parts {
			got, ok := impl.Carried(k, p.Id)
			if !ok || !ruledKernel(got) || !same(got, carriedByHand(k, p.Id)) {
				t.Fatalf("%d %v\n%s\n%s", p.Id, ok, kernelText(k), kernelText(got))
			}
			for _, c := range k.Chans {
				from, to := ends(&k, c)
				fromThen, toThen := ends(&got, c)
				carried += len(from.Items) - len(fromThen.Items)
				if from.Queue && !slices.Equal(slices.Concat(toThen.Items, fromThen.Items), slices.Concat(to.Items, from.Items)) {
					t.Fatalf("%d\n%s\n%s", p.Id, kernelText(k), kernelText(got))
				}
				if !from.Queue && !slices.Equal(from.Items, fromThen.Items) {
					t.Fatalf("%d\n%s\n%s", p.Id, kernelText(k), kernelText(got))
				}
			}
			again, ok := impl.Carried(got, p.Id)
			if !ok || !same(again, got) {
				t.Fatalf("carried once more: %d\n%s\n%s", p.Id, kernelText(got), kernelText(again))
			}
		}
	}
	if carried < 200 {
		t.Error("hardly any is carried", carried)
	}
}

// runners has three partitions, of which each would go on by an op a step.
func runners() impl.Kernel {
	l := func(id int64) lines {
		return lines{fmt.Sprint("part ", id, " 9"), "proc 1 5 1 0 0 0 0 3 7 ;;g;run 1000;loop"}
	}
	return kernelOf(0, "10 0:3:1 3:2:2 6:2:3 8:1:4", "", l(1), l(2), l(4))
}

func TestOnlyTheOwnerGoesOn(t *testing.T) {
	owners := []int64{1, 1, 1, 2, 2, 0, 0, 0, 4, 0}
	for _, from := range []int64{0, 10, 990, lastNow - 10} {
		for i, owner := range owners {
			k := runners()
			k.Now = from + int64(i)
			want := copied(k)
			want.Now++
			if p := partAt(&want, owner); p != nil {
				p.Procs[0].Left = 999
			}
			if got, ok := impl.Stepped(k); !ok || !same(got, want) {
				t.Errorf("%d %v\n%s", k.Now, ok, kernelText(got))
			}
		}
	}
	got, ok := impl.Ran(runners(), 25)
	if !ok || got.Now != 25 || got.Parts[0].Procs[0].Left != 1000-9 || got.Parts[1].Procs[0].Left != 1000-6 || got.Parts[2].Procs[0].Left != 1000-2 {
		t.Errorf("%v\n%s", ok, kernelText(got))
	}
}

func TestSteppedAtTheLastTimes(t *testing.T) {
	for _, f := range []impl.Frame{frame(1), frame(1, window(0, 1, 1)), frame(1, window(0, 1, 3))} {
		for _, now := range append(slices.Clone(edgeNumbers), lastNow-2, lastNow-1, lastNow, lastNow+1) {
			k := runners()
			k.Frame, k.Now = f, now
			got, ok := impl.Stepped(k)
			if ok != within(now, 0, lastNow-1) || ok && got.Now != now+1 || !ok && !same(got, impl.Kernel{}) {
				t.Error(f, now, got, ok)
			}
		}
	}
}

func TestSteppedWhereTickedIsFalse(t *testing.T) {
	for now := range int64(10) {
		for _, next := range []int64{impl.MaxTime - 21, impl.MaxTime - 20, impl.MaxTime - 19, impl.MaxTime} {
			for place := range 3 {
				k := runners()
				k.Now = now
				k.Parts[place].Next = next
				want := next <= impl.MaxTime-20 || ownerByHand(k) != k.Parts[place].Id
				got, ok := impl.Stepped(k)
				if ok != want || !ok && !same(got, impl.Kernel{}) {
					t.Error(now, next, place, got, ok)
				}
			}
		}
	}
}

func wantStepped(t *testing.T, k impl.Kernel, changed ...string) impl.Kernel {
	t.Helper()
	want := withLines(k, changed)
	want.Now++
	got, ok := impl.Stepped(k)
	if !ok || !same(got, want) {
		t.Errorf("at %d %v:\n%swant\n%s", k.Now, ok, kernelText(got), kernelText(want))
	}
	return got
}

func TestWhatIsWrittenIsCarriedAtOnce(t *testing.T) {
	k := kernelOf(0, "4 0:2:1 2:1:2", "1.1>2.1 1.2>2.2",
		lines{"part 1 9", "port 1 1 0 1", "port 2 1 1 2", "proc 1 5 1 0 0 0 0 3 7 ;;;write 1 a;write 2 b;run 9"},
		lines{"part 2 9", "port 1 0 0 1", "port 2 0 1 1", "proc 1 5 1 0 0 0 0 3 7 ;;;fetch 2;fetch 1;fetch 2;run 9"})
	k = wantStepped(t, k, "1:proc 1 5 1 1 0 0 0 0 7 ;;;write 1 a;write 2 b;run 9", "1:port 1 1 0 1;a", "2:port 1 0 0 1;a")
	k = wantStepped(t, k, "1:proc 1 5 1 2 0 0 0 0 7 ;;;write 1 a;write 2 b;run 9", "2:port 2 0 1 1;b")
	k = wantStepped(t, k, "2:proc 1 5 1 1 0 0 0 0 7 ;;b;fetch 2;fetch 1;fetch 2;run 9", "2:port 2 0 1 1")
	k = wantStepped(t, k)
	k = wantStepped(t, k, "1:proc 1 5 1 2 8 0 0 0 7 ;;;write 1 a;write 2 b;run 9")
	k = wantStepped(t, k, "1:proc 1 5 1 2 7 0 0 0 7 ;;;write 1 a;write 2 b;run 9")
	k = wantStepped(t, k, "2:proc 1 5 1 2 0 0 0 0 7 ;;a;fetch 2;fetch 1;fetch 2;run 9")
	if k.Now != 7 {
		t.Error(k.Now)
	}
}

// TestCarriedInEachStepOfTheOwner has partitions without a process that is
// ready: what stands in their ports is carried in their times all the same.
func TestCarriedInEachStepOfTheOwner(t *testing.T) {
	k := kernelOf(0, "4 0:1:1 1:1:2 2:1:3", "1.1>2.1 2.2>1.2", lines{"part 1 9", "port 1 1 1 2;a;b", "port 2 0 1 1"},
		lines{"part 2 9", "port 1 0 1 1", "port 2 1 1 2;c;d"})
	k = wantStepped(t, k, "1:port 1 1 1 2;b", "2:port 1 0 1 1;a")
	k = wantStepped(t, k, "2:port 2 1 1 2;d", "1:port 2 0 1 1;c")
	k = wantStepped(t, k)
	k = wantStepped(t, k)
	k = wantStepped(t, k)
	k = wantStepped(t, k)
	k.Parts[1].Ports[0].Items = nil
	k = wantStepped(t, k)
	k = wantStepped(t, k)
	wantStepped(t, k, "1:port 1 1 1 2", "2:port 1 0 1 1;b")
}

// TestNoWriteIsCarriedBackIn has a source that is full as its process writes:
// what is carried in the same step comes behind the op.
func TestNoWriteIsCarriedBackIn(t *testing.T) {
	k := kernelOf(0, "1 0:1:1", "1.1>2.1", lines{"part 1 9", "port 1 1 1 1;a", "proc 1 5 1 0 0 0 0 3 7 ;;;write 1 b;write 1 c;run 9"},
		lines{"part 2 9", "port 1 0 1 5"})
	k = wantStepped(t, k, "1:proc 1 5 1 1 0 0 0 1 7 ;;;write 1 b;write 1 c;run 9", "1:port 1 1 1 1", "2:port 1 0 1 5;a")
	wantStepped(t, k, "1:proc 1 5 1 2 0 0 0 0 7 ;;;write 1 b;write 1 c;run 9", "2:port 1 0 1 5;a;c")
}

func TestRanCounts(t *testing.T) {
	for _, n := range append(slices.Clone(edgeNumbers), 3, 199, 200, 201, 202) {
		for _, k := range []impl.Kernel{runners(), {Frame: frame(1)}} {
			got, ok := impl.Ran(k, n)
			if ok != within(n, 0, 200) || ok && got.Now != n || !ok && !same(got, impl.Kernel{}) {
				t.Error(n, got, ok)
			}
			if want, _ := ranByHand(k, min(max(n, 0), 200)); ok && !same(got, want) {
				t.Error(n, kernelText(got), kernelText(want))
			}
		}
	}
}

func TestRanToTheLastTime(t *testing.T) {
	for _, k := range []impl.Kernel{runners(), {Frame: frame(1)}} {
		for _, n := range []int64{-1, 0, 1, 2, 7, 199, 200, 201, lastNow, math.MaxInt64, math.MinInt64} {
			for _, now := range []int64{lastNow - 201, lastNow - 200, lastNow - 199, lastNow - 8, lastNow - 7, lastNow - 6, lastNow - 2, lastNow - 1, lastNow, lastNow + 1} {
				k.Now = now
				got, ok := impl.Ran(k, n)
				want := within(n, 0, 200) && now <= lastNow && now+n <= lastNow
				if ok != want || ok && got.Now != now+n || !ok && !same(got, impl.Kernel{}) {
					t.Error(now, n, got, ok)
				}
			}
		}
	}
}

func TestRanWhereOneStepIsFalse(t *testing.T) {
	// Each second tick takes a turn of 2, whose turns are used up then.
	for room := range int64(6) {
		k := runners()
		k.Parts[1].Procs[0].Prog = prog("sleep 1;loop")
		k.Parts[1].Next = impl.MaxTime - 20 - room
		falses := 0
		for n := range int64(60) {
			want, fits := ranByHand(k, n)
			got, ok := impl.Ran(k, n)
			if ok != fits || !same(got, want) {
				t.Error(room, n, ok, kernelText(got))
			}
			if !ok {
				falses++
			}
		}
		if falses == 0 || falses == 60 {
			t.Error(room, falses)
		}
	}
}

func TestStepsAgainstTheRules(t *testing.T) {
	d := &dice{state: 62}
	for range 300 {
		k := rolledKernel(d)
		n := d.below(60)
		want, _ := ranByHand(k, n)
		got, ok := impl.Ran(k, n)
		if !ok || !same(got, want) || !ruledKernel(got) {
			t.Fatalf("%d %v\n%s\n%swant\n%s", n, ok, kernelText(k), kernelText(got), kernelText(want))
		}
	}
}

// TestStepsChangeNoOther lets the ports go to which a channel leads from the
// owner: all else of the other partitions is as it was, and the owner is as
// Ticked leaves it but for the items that it gave away.
func TestStepsChangeNoOther(t *testing.T) {
	d := &dice{state: 63}
	for range 1000 {
		k := rolledKernel(d)
		got, ok := impl.Stepped(k)
		if !ok || got.Now != k.Now+1 || !same(got.Frame, k.Frame) || !slices.Equal(got.Chans, k.Chans) || len(got.Parts) != len(k.Parts) {
			t.Fatalf("%v\n%s\n%s", ok, kernelText(k), kernelText(got))
		}
		owner := impl.OwnerAt(k.Frame, k.Now)
		want := copied(k)
		if p := partAt(&want, owner); p != nil {
			*p, _ = impl.Ticked(*p, k.Now)
		}
		want.Now++
		for _, c := range k.Chans {
			if c.From == owner {
				from, to := ends(&want, c)
				fromThen, toThen := ends(&got, c)
				if from.Queue && !slices.Equal(slices.Concat(to.Items, from.Items), slices.Concat(toThen.Items, fromThen.Items)) {
					t.Fatalf("%s\n%s", kernelText(k), kernelText(got))
				}
				from.Items, to.Items = fromThen.Items, toThen.Items
			}
		}
		if !same(got, want) {
			t.Fatalf("%s\n%s\nwant\n%s", kernelText(k), kernelText(got), kernelText(want))
		}
	}
}

func TestStepsInTwoPieces(t *testing.T) {
	d := &dice{state: 64}
	for i := range 400 {
		k := rolledKernel(d)
		if i%10 == 0 && len(k.Parts) > 0 {
			k.Parts[0].Next = impl.MaxTime - 20 - d.below(8)
		}
		if i%10 == 1 {
			k.Now = lastNow - d.below(40)
		}
		first, second := d.below(40), d.below(40)
		whole, ok := impl.Ran(k, first+second)
		half, one := impl.Ran(k, first)
		both, two := impl.Ran(half, second)
		if ok != (one && two) || ok && !same(whole, both) {
			t.Fatalf("%d %d\n%s: %v %v %v", first, second, kernelText(k), ok, one, two)
		}
		once, oneOk := impl.Stepped(k)
		if again, ok := impl.Ran(k, 1); ok != oneOk || !same(once, again) {
			t.Fatal(kernelText(k))
		}
	}
}

// TestWhatIsWrittenIsFetchedOnceAndInOrder runs a writer and a reader for as
// long as both have ops, and counts a write that was not refused, and a fetch
// likewise.
func TestWhatIsWrittenIsFetchedOnceAndInOrder(t *testing.T) {
	writes, fetches := "", strings.TrimSuffix(strings.Repeat("fetch 1;", 20), ";")
	for i := range 20 {
		writes += fmt.Sprintf("write 1 %c;", 'a'+i)
	}
	writes = strings.TrimSuffix(writes, ";")
	for _, f := range []string{"2 0:1:1 1:1:2", "4 0:3:1 3:1:2", "4 0:1:1 1:3:2", "9 0:6:1 6:3:2", "5 2:1:1 4:1:2"} {
		for sizes := range 25 {
			k := kernelOf(0, f, "1.1>2.1", lines{"part 1 9", fmt.Sprint("port 1 1 1 ", 1+sizes%5), "proc 1 5 1 0 0 0 0 0 7 ;;;" + writes},
				lines{"part 2 9", fmt.Sprint("port 1 0 1 ", 1+sizes/5), "proc 1 5 1 0 0 0 0 0 7 ;;;" + fetches})
			written, fetched := "", ""
			for range 100 {
				next, ok := impl.Stepped(k)
				if !ok {
					t.Fatal(kernelText(k))
				}
				w, r := k.Parts[0].Procs[0], k.Parts[1].Procs[0]
				if then := next.Parts[0].Procs[0]; !same(w, then) && then.Code == done {
					written += w.Prog[w.At].Text
				}
				if then := next.Parts[1].Procs[0]; !same(r, then) && then.Code == done {
					fetched += then.Got
				}
				k = next
				on := strings.Join(slices.Concat(k.Parts[1].Ports[0].Items, k.Parts[0].Ports[0].Items), "")
				if fetched+on != written {
					t.Fatalf("%s %d: %q written, %q fetched, %q on the way", f, sizes, written, fetched, on)
				}
			}
			if len(written) < 5 || len(fetched) < 5 {
				t.Error("hardly any", f, sizes, written, fetched)
			}
		}
	}
}

func TestKernelCallsAtAnyArgument(t *testing.T) {
	d := &dice{state: 65}
	rights := 0
	for range 2500 {
		k := rolledKernel(d)
		for range d.below(4) {
			spoilKernel(d, &k)
		}
		if !ruledKernel(k) {
			wantRefused(t, k, k)
			continue
		}
		rights++
		wantKernel(t, true, k, k)
		id, n := d.below(9)-1, d.below(5)-1
		if d.below(9) == 0 {
			id, n = edgeNumbers[d.below(int64(len(edgeNumbers)))], edgeNumbers[d.below(int64(len(edgeNumbers)))]
		}
		there := partAt(&k, id)
		if p, ok := impl.PartOf(k, id); ok != (there != nil) || ok && !same(p, *there) || !ok && !same(p, impl.Part{}) {
			t.Fatal(kernelText(k), id, p, ok)
		}
		if got, ok := impl.Carried(k, id); ok != (there != nil) || ok && !same(got, carriedByHand(k, id)) || !ok && !same(got, impl.Kernel{}) {
			t.Fatal(kernelText(k), id, got, ok)
		}
		want, can := steppedByHand(k)
		if got, ok := impl.Stepped(k); ok != can || !same(got, want) {
			t.Fatal(kernelText(k), got, ok)
		}
		want, can = impl.Kernel{}, false
		if within(n, 0, 200) {
			want, can = ranByHand(k, n)
		}
		if got, ok := impl.Ran(k, n); ok != can || !same(got, want) {
			t.Fatal(kernelText(k), n, got, ok)
		}
	}
	if rights < 500 || rights > 2000 {
		t.Error("rolled too one-sidedly:", rights)
	}
}

// knottedKernel has lists that share memory, those of two partitions, too.
func knottedKernel() impl.Kernel {
	p, q := knottedPart(), knottedPart()
	p.Id, q.Id = 1, 2
	p.Ports = append(p.Ports, impl.Port{Id: 9, Out: true, Queue: true, Max: 5}, impl.Port{Id: 10, Out: true, Max: 1})
	q.Ports = append(q.Ports, impl.Port{Id: 9, Queue: true, Max: 5}, impl.Port{Id: 10, Max: 1})
	items := []string{"1", "2", "3"}
	p.Ports[0].Items, p.Ports[2].Items, q.Ports[2].Items = items[:2], items[:3], items[:2]
	p.Ports[3].Items, q.Ports[3].Items = items[:1], items[1:2]
	p.Buffers[0].Items, q.Buffers[0].Items = items[1:], items[1:]
	q.Procs, q.Sems, q.Events, q.Boards = p.Procs, p.Sems, p.Events, p.Boards
	return impl.Kernel{Now: 3, Frame: frame(1, window(0, 1, 1)), Parts: []impl.Part{p, q}, Chans: chansOf("1.9>2.9 1.10>2.10")}
}

func TestKernelsOfListsThatShareMemory(t *testing.T) {
	k := knottedKernel()
	if p := k.Parts[0]; len(p.Buffers[0].Items) > int(p.Buffers[0].Max) || !ruledKernel(k) {
		t.Fatal("the case itself is not right")
	}
	was := copied(k)
	for _, call := range []func(impl.Kernel) (impl.Kernel, bool){
		impl.Stepped,
		func(k impl.Kernel) (impl.Kernel, bool) { return impl.Carried(k, 1) },
		func(k impl.Kernel) (impl.Kernel, bool) { return impl.Carried(k, 2) },
		func(k impl.Kernel) (impl.Kernel, bool) { return impl.Ran(k, 0) },
		func(k impl.Kernel) (impl.Kernel, bool) { return impl.Ran(k, 30) },
	} {
		got, ok := call(k)
		want, _ := call(was)
		if !ok || !same(got, want) || !same(k, was) {
			t.Errorf("%v\n%swant\n%s", ok, kernelText(got), kernelText(want))
		}
		wantNewMemory(t, got, k)
	}
	for id := int64(1); id <= 2; id++ {
		p, ok := impl.PartOf(k, id)
		if !ok || !same(p, was.Parts[id-1]) {
			t.Error(id, p, ok)
		}
		wantNewMemory(t, p, k)
	}
}

func TestKernelCallsKeepToThemselves(t *testing.T) {
	d := &dice{state: 66}
	l := []impl.Kernel{linkedKernel(), runners(), spreadKernel(10), spreadKernel(11), knottedKernel(), {}, {Frame: frame(1)}}
	for i := range 300 {
		k := rolledKernel(d)
		if i%3 == 0 {
			spoilKernel(d, &k)
		}
		l = append(l, k)
	}
	for _, k := range l {
		wantUnwritten(t, k, func(k impl.Kernel) {
			impl.KernelOk(k)
			for id := range int64(7) {
				p, ok := impl.PartOf(k, id)
				p2, too := impl.PartOf(k, id)
				c, carried := impl.Carried(k, id)
				c2, again := impl.Carried(k, id)
				if ok != too || carried != again || !same(p, p2) || !same(c, c2) {
					t.Fatal(kernelText(k))
				}
				wantNewMemory(t, p, k, p2)
				wantNewMemory(t, c, k, c2)
			}
			for _, n := range []int64{0, 1, 7, 40} {
				r, ok := impl.Ran(k, n)
				r2, too := impl.Ran(k, n)
				if ok != too || !same(r, r2) {
					t.Fatal(kernelText(k))
				}
				wantNewMemory(t, r, k, r2)
			}
			s, _ := impl.Stepped(k)
			wantNewMemory(t, s, k)
		})
	}
}

// TestOnePortFeedsMany has one port without Queue at the beginning of many
// channels: each of the others has its own list of the item.
func TestOnePortFeedsMany(t *testing.T) {
	k := spreadKernel(10)
	got, ok := impl.Stepped(k)
	if !ok || !same(got.Parts[0], k.Parts[0]) {
		t.Fatal(got, ok)
	}
	for i, c := range k.Chans {
		if _, to := ends(&got, c); !slices.Equal(to.Items, []string{"x"}) {
			t.Error(i, c, to)
		}
	}
	wantNewMemory(t, got, k)
}
