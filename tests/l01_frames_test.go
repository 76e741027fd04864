package tests

import (
	"fmt"
	"slices"
	"strings"
	"testing"

	"loop.example/g00313/impl"
)

func frame(major int64, windows ...impl.Window) impl.Frame {
	return impl.Frame{Major: major, Windows: windows}
}

func window(at, length, part int64) impl.Window {
	return impl.Window{At: at, Len: length, Part: part}
}

// manyWindows are n windows of length 1 that touch.
func manyWindows(n int64) []impl.Window {
	var l []impl.Window
	for at := range n {
		l = append(l, window(at, 1, at%impl.MaxParts+1))
	}
	return l
}

func sameFrame(a, b impl.Frame) bool {
	return a.Major == b.Major && slices.Equal(a.Windows, b.Windows)
}

func rightFrames() []impl.Frame {
	l := []impl.Frame{
		frame(1),
		frame(1000),
		frame(1, window(0, 1, 1)),
		frame(1, window(0, 1, 6)),
		frame(10, window(0, 10, 3)),
		frame(10, window(0, 4, 1), window(5, 3, 2)),
		frame(10, window(0, 4, 1), window(4, 6, 2)),
		frame(10, window(0, 4, 1), window(4, 2, 1), window(8, 2, 1)),
		frame(10, window(9, 1, 6)),
		frame(7, window(1, 2, 2), window(4, 1, 3), window(5, 1, 2)),
		frame(1000, window(0, 1, 1), window(999, 1, 1)),
		frame(1000, window(0, 1000, 4)),
		frame(20, manyWindows(20)...),
		frame(1000, manyWindows(20)...),
	}
	d := &dice{state: 1}
	for range 40 {
		l = append(l, rolledFrame(d))
	}
	return l
}

func rolledFrame(d *dice) impl.Frame {
	f := impl.Frame{Major: 1 + d.below(40)}
	at := d.below(3)
	for at < f.Major && len(f.Windows) < impl.MaxWindows {
		length := 1 + d.below(min(5, f.Major-at))
		f.Windows = append(f.Windows, window(at, length, 1+d.below(impl.MaxParts)))
		at += length + d.below(3)
	}
	return f
}

func wrongFrames() []impl.Frame {
	const least, most = -1 << 63, 1<<63 - 1
	return []impl.Frame{
		{},
		frame(0),
		frame(-1),
		frame(1001),
		frame(most),
		frame(least),
		frame(0, window(0, 0, 1)),
		frame(10, window(-1, 2, 1)),
		frame(10, window(least, 2, 1)),
		frame(10, window(0, 0, 1)),
		frame(10, window(0, -1, 1)),
		frame(10, window(0, least, 1)),
		frame(10, window(0, 11, 1)),
		frame(10, window(1, 10, 1)),
		frame(10, window(9, 2, 1)),
		frame(10, window(10, 1, 1)),
		frame(10, window(10, 0, 1)),
		frame(10, window(11, 1, 1)),
		frame(10, window(5, most, 1)),
		frame(10, window(most, most, 1)),
		frame(10, window(most, 1, 1)),
		frame(10, window(0, 1, 0)),
		frame(10, window(0, 1, 7)),
		frame(10, window(0, 1, -1)),
		frame(10, window(0, 1, most)),
		frame(10, window(0, 4, 1), window(3, 1, 2)),
		frame(10, window(5, 3, 1), window(0, 4, 2)),
		frame(10, window(0, 4, 1), window(0, 4, 1)),
		frame(10, window(0, 4, 1), window(4, 7, 2)),
		frame(10, window(0, 4, 1), window(4, 2, 2), window(5, 1, 3)),
		frame(21, manyWindows(21)...),
		frame(1000, manyWindows(21)...),
		frame(1001, window(0, 1001, 1)),
	}
}

// ownersOf is told time by time: who owns which time of the frame.
func ownersOf(f impl.Frame) []int64 {
	l := make([]int64, f.Major)
	for _, w := range f.Windows {
		for at := w.At; at < w.At+w.Len; at++ {
			l[at] = w.Part
		}
	}
	return l
}

func TestFrameOk(t *testing.T) {
	for _, f := range rightFrames() {
		if !impl.FrameOk(f) {
			t.Error("right, but refused:", f)
		}
	}
	for _, f := range wrongFrames() {
		if impl.FrameOk(f) {
			t.Error("wrong, but accepted:", f)
		}
	}
	for part := int64(1); part <= impl.MaxParts; part++ {
		if !impl.FrameOk(frame(2, window(1, 1, part))) {
			t.Error("part", part)
		}
	}
}

func TestWrongFramesHaveOneAnswer(t *testing.T) {
	for _, f := range wrongFrames() {
		got := []int64{impl.OwnerAt(f, 0), impl.SupplyOf(f, 1, 0, 0), impl.LeastSupply(f, 1, 0), impl.NextAt(f, 1, 0), impl.NextAt(f, 0, 0)}
		if !slices.Equal(got, []int64{-1, -1, -1, -1, -1}) {
			t.Error(f, got)
		}
		if s := impl.FrameText(f); s != "" {
			t.Error(f, s)
		}
	}
}

func TestOwnerAt(t *testing.T) {
	f := frame(10, window(1, 3, 2), window(4, 1, 5), window(7, 2, 2))
	wants := map[int64]int64{0: 0, 1: 2, 2: 2, 3: 2, 4: 5, 5: 0, 6: 0, 7: 2, 8: 2, 9: 0, 10: 0, 11: 2, 13: 2, 14: 5, 15: 0, 999999999: 0, 999999998: 2, impl.MaxTime: 0}
	for at, want := range wants {
		if got := impl.OwnerAt(f, at); got != want {
			t.Error(at, got, want)
		}
	}
	for _, f := range rightFrames() {
		owners := ownersOf(f)
		last := int64(impl.MaxTime) / f.Major * f.Major
		for at, want := range owners {
			for _, frames := range []int64{0, f.Major, 7 * f.Major, last - f.Major} {
				if got := impl.OwnerAt(f, frames+int64(at)); got != want {
					t.Fatal(f, frames, at, got, want)
				}
			}
		}
	}
}

func TestOwnerAtRefusesTimes(t *testing.T) {
	f := frame(1, window(0, 1, 4))
	for _, at := range edgeNumbers {
		want := int64(-1)
		if at >= 0 && at <= impl.MaxTime {
			want = 4
		}
		if got := impl.OwnerAt(f, at); got != want {
			t.Error(at, got, want)
		}
	}
}

func TestSupplyOf(t *testing.T) {
	for _, f := range rightFrames() {
		owners := ownersOf(f)
		step := max(1, f.Major/23)
		for part := int64(-1); part <= impl.MaxParts+1; part++ {
			for from := int64(0); from <= 2*f.Major; from += step {
				count := int64(0)
				for to := from; to <= from+3*f.Major; to++ {
					if got := impl.SupplyOf(f, part, from, to); got != count {
						t.Fatal(f, part, from, to, got, count)
					}
					if part > 0 && owners[to%f.Major] == part {
						count++
					}
				}
			}
		}
	}
}

func TestSupplyOfLongPieces(t *testing.T) {
	f := frame(10, window(0, 4, 1), window(5, 3, 2))
	wants := []struct{ part, from, to, want int64 }{
		{1, 0, impl.MaxTime, 400000000},
		{2, 0, impl.MaxTime, 300000000},
		{0, 0, impl.MaxTime, 0},
		{7, 0, impl.MaxTime, 0},
		{1, 2, impl.MaxTime, 399999998},
		{2, 6, impl.MaxTime - 3, 299999998},
		{1, impl.MaxTime, impl.MaxTime, 0},
		{2, impl.MaxTime - 5, impl.MaxTime, 3},
		{2, impl.MaxTime - 4, impl.MaxTime - 1, 2},
		{1, 3, 3, 0},
		{1, 3, 4, 1},
		{1, 4, 10, 0},
	}
	for _, w := range wants {
		if got := impl.SupplyOf(f, w.part, w.from, w.to); got != w.want {
			t.Error(w, got)
		}
	}
	if got := impl.SupplyOf(frame(1, window(0, 1, 1)), 1, 0, impl.MaxTime); got != impl.MaxTime {
		t.Error(got)
	}
}

func TestSupplyOfRefusesTimes(t *testing.T) {
	f := frame(1, window(0, 1, 3))
	for _, from := range edgeNumbers {
		for _, to := range edgeNumbers {
			want := int64(-1)
			if from >= 0 && from <= impl.MaxTime && to >= from && to <= impl.MaxTime {
				want = to - from
			}
			if got := impl.SupplyOf(f, 3, from, to); got != want {
				t.Error(from, to, got, want)
			}
		}
	}
}

func TestLeastSupplyAgainstEveryBeginning(t *testing.T) {
	for _, f := range rightFrames() {
		lengths := []int64{0, 1, 2, 3, f.Major - 1, f.Major, f.Major + 1, 2*f.Major + f.Major/2, impl.MaxTime - impl.MaxMajor}
		for _, n := range lengths {
			for part := int64(-1); part <= impl.MaxParts+1; part++ {
				least := n
				for from := range f.Major {
					least = min(least, impl.SupplyOf(f, part, from, from+n))
				}
				if got := impl.LeastSupply(f, part, n); got != least {
					t.Fatal(f, part, n, got, least)
				}
			}
		}
	}
}

func TestLeastSupplyByHand(t *testing.T) {
	f := frame(10, window(0, 4, 1), window(5, 3, 2))
	for n, want := range []int64{0, 0, 0, 0, 0, 0, 0, 1, 2, 3, 4, 4, 4, 4, 4, 4, 4, 5} {
		if got := impl.LeastSupply(f, 1, int64(n)); got != want {
			t.Error(n, got, want)
		}
	}
	whole := frame(3, window(0, 1, 2), window(1, 2, 2))
	for _, n := range edgeNumbers {
		want := int64(-1)
		if n >= 0 && n <= impl.MaxTime-impl.MaxMajor {
			want = n
		}
		if got := impl.LeastSupply(whole, 2, n); got != want {
			t.Error(n, got, want)
		}
	}
	// The worst piece may lie over the frame's end.
	ends := frame(10, window(3, 4, 1))
	if impl.LeastSupply(ends, 1, 6) != 0 || impl.LeastSupply(ends, 1, 7) != 1 || impl.LeastSupply(ends, 0, 10) != 0 {
		t.Error(impl.LeastSupply(ends, 1, 6), impl.LeastSupply(ends, 1, 7))
	}
}

func TestNextAtByHand(t *testing.T) {
	f := frame(10, window(0, 4, 1), window(5, 3, 2))
	wants := []struct{ part, at, want int64 }{
		{1, 0, 0}, {1, 3, 3}, {1, 4, 10}, {1, 9, 10}, {1, 10, 10}, {1, 14, 20},
		{2, 0, 5}, {2, 4, 5}, {2, 5, 5}, {2, 6, 6}, {2, 7, 7}, {2, 8, 15}, {2, 9, 15},
		{0, 0, 4}, {0, 4, 4}, {0, 5, 8}, {0, 8, 8}, {0, 9, 9}, {0, 10, 14},
		{3, 0, -1}, {-1, 0, -1}, {7, 0, -1},
	}
	for _, w := range wants {
		if got := impl.NextAt(f, w.part, w.at); got != w.want {
			t.Error(w, got)
		}
	}
	if got := impl.NextAt(frame(5, window(0, 5, 1)), 0, 3); got != -1 {
		t.Error("0 owns nothing there, but", got)
	}
	if got := impl.NextAt(frame(5), 0, 3); got != 3 {
		t.Error(got)
	}
	// The last of the Major times that are looked at.
	if got := impl.NextAt(frame(1000, window(0, 1, 1)), 1, 1); got != 1000 {
		t.Error(got)
	}
}

func TestNextAtAgainstOwners(t *testing.T) {
	for _, f := range rightFrames() {
		owners := ownersOf(f)
		step := max(1, f.Major/31)
		for part := int64(0); part <= impl.MaxParts; part++ {
			for at := int64(0); at < 2*f.Major; at += step {
				want := int64(-1)
				for later := f.Major - 1; later >= 0; later-- {
					if owners[(at+later)%f.Major] == part {
						want = at + later
					}
				}
				if got := impl.NextAt(f, part, at); got != want {
					t.Fatal(f, part, at, got, want)
				}
			}
		}
	}
}

func TestNextAtRefusesTimes(t *testing.T) {
	f := frame(1, window(0, 1, 3))
	for _, at := range edgeNumbers {
		want := int64(-1)
		if at >= 0 && at <= impl.MaxTime-impl.MaxMajor {
			want = at
		}
		if got := impl.NextAt(f, 3, at); got != want {
			t.Error(at, got, want)
		}
	}
}

func TestFrameTexts(t *testing.T) {
	wants := map[string]impl.Frame{
		"1":                    frame(1),
		"1000":                 frame(1000),
		"10 0:4:1 5:3:2":       frame(10, window(0, 4, 1), window(5, 3, 2)),
		"10 0:4:1 4:6:2":       frame(10, window(0, 4, 1), window(4, 6, 2)),
		"1000 0:1000:6":        frame(1000, window(0, 1000, 6)),
		"1000 0:1:1 999:1:1":   frame(1000, window(0, 1, 1), window(999, 1, 1)),
		"12 10:1:1 11:1:2":     frame(12, window(10, 1, 1), window(11, 1, 2)),
		"3 0:1:1 1:1:1 2:1:1":  frame(3, window(0, 1, 1), window(1, 1, 1), window(2, 1, 1)),
		"100 7:13:5 20:60:4":   frame(100, window(7, 13, 5), window(20, 60, 4)),
		"100 90:10:3":          frame(100, window(90, 10, 3)),
		"2 0:2:1":              frame(2, window(0, 2, 1)),
		"999 0:100:2 100:10:1": frame(999, window(0, 100, 2), window(100, 10, 1)),
	}
	for s, f := range wants {
		if got := impl.FrameText(f); got != s {
			t.Error(got, s)
		}
	}
	for _, f := range rightFrames() {
		s := impl.FrameText(f)
		if back, ok := impl.ReadFrame(s); !ok || !sameFrame(back, f) {
			t.Error(f, s, back, ok)
		}
	}
}

func TestWrongFrameTexts(t *testing.T) {
	l := []string{
		"", " ", ":", "0", "-1", "-0", "+1", "01", "1001", "1e1", "0x1", "1_0", "ten", "10000000000",
		"9223372036854775807", "9223372036854775808", "99999999999999999999", "18446744073709551626",
		"10 ", " 10", "10  0:4:1", "10 0:4:1 ", " 10 0:4:1", "10 0:4:1  5:3:2", "10\t0:4:1", "10\n", "10 0:4:1\n",
		"10 0", "10 0:4", "10 0:4:1:1", "10 0:4:", "10 :4:1", "10 0::1", "10 ::", "10 :", "10:0:4:1", "10,0:4:1", "10 0:4:1,5:3:2",
		"010 0:4:1", "10 00:4:1", "10 0:04:1", "10 0:4:01", "10 +0:4:1", "10 0:+4:1", "10 0:4:+1", "10 -0:4:1",
		"10 0: 4:1", "10 0:4 :1", "10 0:4:1.", "10 0:4:1;", "10 0;4;1",
		"10 -1:4:1", "10 0:-4:1", "10 0:4:-1", "10 0:0:1", "10 0:4:0", "10 0:4:7", "10 0:11:1", "10 9:2:1", "10 10:1:1",
		"10 0:4:1 3:3:2", "10 5:3:2 0:4:1", "10 0:4:1 0:4:1", "0 0:1:1", "1001 0:1:1",
		"10 0:18446744073709551617:1", "10 18446744073709551616:4:1", "10 0:4:18446744073709551617",
		"10 9223372036854775807:1:1", "10 0:9223372036854775807:1", "10 1:9223372036854775807:1",
		"10 0:4:1\x00", "\xff", "１０", strings.Repeat("9", 5000), strings.Repeat(" ", 5000), strings.Repeat(" 0:1:1", 5000), "1000" + strings.Repeat(" 0:1:1", 5000),
	}
	one21 := "1000"
	for at := range 21 {
		one21 += fmt.Sprintf(" %d:1:1", at)
	}
	l = append(l, one21)
	for _, s := range l {
		if f, ok := impl.ReadFrame(s); ok || !sameFrame(f, impl.Frame{}) {
			t.Errorf("%.40q %v %v", s, f, ok)
		}
	}
	if _, ok := impl.ReadFrame(strings.TrimSuffix(one21, " 20:1:1")); !ok {
		t.Error("twenty windows are right")
	}
}

func TestFramesAreReadOnlyFromTheirTexts(t *testing.T) {
	d := &dice{state: 2}
	for range 20000 {
		s := d.garbled(impl.FrameText(rolledFrame(d)), "0123456789: -+;x")
		f, ok := impl.ReadFrame(s)
		if ok && (!impl.FrameOk(f) || impl.FrameText(f) != s) || !ok && !sameFrame(f, impl.Frame{}) {
			t.Fatalf("%q %v %v", s, f, ok)
		}
	}
}

func TestFrameCallsAtAnyArgument(t *testing.T) {
	d := &dice{state: 3}
	edge := func() int64 { return edgeNumbers[d.below(int64(len(edgeNumbers)))] }
	for range 20000 {
		f := impl.Frame{Major: edge()}
		for range d.below(4) {
			f.Windows = append(f.Windows, window(edge(), edge(), edge()))
		}
		part, from, to := edge(), edge(), edge()
		right := impl.FrameOk(f)
		answers := []int64{impl.OwnerAt(f, from), impl.SupplyOf(f, part, from, to), impl.LeastSupply(f, part, to), impl.NextAt(f, part, from)}
		if !right && (slices.Max(answers) != -1 || impl.FrameText(f) != "") || slices.Min(answers) < -1 {
			t.Fatal(f, part, from, to, answers)
		}
		if back, ok := impl.ReadFrame(impl.FrameText(f)); ok != right || right && !sameFrame(back, f) {
			t.Fatal(f, back, ok)
		}
	}
}

func TestFrameCallsWriteIntoNoArgument(t *testing.T) {
	for _, f := range append(rightFrames(), wrongFrames()...) {
		room := append(slices.Clone(f.Windows), window(11, 12, 13), window(14, 15, 16))
		was := slices.Clone(room)
		given := impl.Frame{Major: f.Major, Windows: room[:len(f.Windows)]}
		for range 2 {
			impl.FrameOk(given)
			impl.OwnerAt(given, 3)
			impl.SupplyOf(given, 1, 2, 33)
			impl.LeastSupply(given, 1, 5)
			impl.NextAt(given, 2, 4)
			impl.FrameText(given)
		}
		if !slices.Equal(room, was) {
			t.Error(f, room)
		}
	}
}

func TestReadFramesShareNothing(t *testing.T) {
	const s = "10 0:4:1 5:3:2"
	a, _ := impl.ReadFrame(s)
	b, _ := impl.ReadFrame(s)
	a.Windows[0] = window(9, 9, 9)
	a.Windows = append(a.Windows[:1], window(8, 8, 8))
	if impl.FrameText(b) != s {
		t.Error(b)
	}
	if c, ok := impl.ReadFrame(s); !ok || impl.FrameText(c) != s {
		t.Error(c, ok)
	}
}

func TestFrameAnswersStayTheSame(t *testing.T) {
	for _, f := range rightFrames() {
		for range 3 {
			g := impl.Frame{Major: f.Major, Windows: slices.Clone(f.Windows)}
			if impl.FrameText(f) != impl.FrameText(g) || impl.LeastSupply(f, 1, 9) != impl.LeastSupply(g, 1, 9) || impl.NextAt(f, 2, 3) != impl.NextAt(g, 2, 3) {
				t.Error(f)
			}
			impl.OwnerAt(impl.Frame{}, 0)
			impl.ReadFrame("wrong")
		}
	}
}
