package tests

import (
	"fmt"
	"slices"
	"strings"
	"sync"
	"testing"

	"loop.example/g00313/impl"
)

// exchange is a line and what it says.
type exchange struct{ line, says string }

// talk has exchanges from pairs: a line, and what it says.
func talk(pairs ...string) []exchange {
	var l []exchange
	for i := 0; i < len(pairs); i += 2 {
		l = append(l, exchange{pairs[i], pairs[i+1]})
	}
	return l
}

// all are exchanges that say the same.
func all(says string, lines ...string) []exchange {
	var l []exchange
	for _, line := range lines {
		l = append(l, exchange{line, says})
	}
	return l
}

func scriptIn(pieces ...[]exchange) string {
	s := ""
	for _, e := range slices.Concat(pieces...) {
		s += e.line + "\n"
	}
	return s
}

func saidIn(pieces ...[]exchange) string {
	s := ""
	for _, e := range slices.Concat(pieces...) {
		if e.says != "" {
			s += e.says + "\n"
		}
	}
	return s
}

// wantSaid tells the script line by line, so that a line that stands behind
// another one and changes what that says is seen, too.
func wantSaid(t *testing.T, pieces ...[]exchange) {
	t.Helper()
	l := slices.Concat(pieces...)
	for n := range len(l) {
		if !wantAnswer(t, scriptIn(l[:n+1]), saidIn(l[:n+1])) {
			return
		}
	}
}

func wantAnswer(t *testing.T, script, want string) bool {
	t.Helper()
	got, byHand := impl.RunScript(script), scriptByHand(script)
	if got != want {
		t.Errorf("%q: %q, want %q", script, got, want)
	}
	if byHand != want {
		t.Errorf("%q: by hand it is another: %q", script, byHand)
	}
	return got == want && byHand == want
}

const tooLong = "too long\n"

func TestLimitsOfScripts(t *testing.T) {
	if impl.MaxScript != 40 || impl.MaxLines != 4000 {
		t.Error(impl.MaxScript, impl.MaxLines)
	}
}

func TestScriptsThatSayNothing(t *testing.T) {
	for _, s := range []string{"", "\n", "\n\n", " \n", "   \n", "\n \n  \n   \n", strings.Repeat("\n", 40), strings.Repeat(" ", 3999) + "\n"} {
		wantAnswer(t, s, "")
	}
	wantAnswer(t, "\n\nnow\n  \n\nnow\n \n", "now 0\nnow 0\n")
	// Other bytes are no blanks.
	for _, s := range []string{"\t", "\r", " \t ", "\x00", "\v", "\u00a0", "\xff", "\u3000"} {
		wantAnswer(t, s+"\n", "what\n")
		wantAnswer(t, "now\n"+s+"\n\n", "now 0\nwhat\n")
		wantAnswer(t, "now"+s+"\n", "what\n")
		wantAnswer(t, s+"now\n", "what\n")
	}
}

func TestNumberOfLines(t *testing.T) {
	for n := 38; n < 44; n++ {
		for _, line := range []string{"now", "", "  ", "fly", "tick 1"} {
			script := strings.Repeat(line+"\n", n)
			got := impl.RunScript(script)
			if (got == tooLong) != (n > 40) || got != scriptByHand(script) {
				t.Errorf("%d times %q: %q", n, line, got)
			}
		}
	}
	wantAnswer(t, strings.Repeat("now\n", 40), strings.Repeat("now 0\n", 40))
	wantAnswer(t, strings.Repeat("now\n", 41), tooLong)
	wantAnswer(t, strings.Repeat("now\n", 39)+"\n", strings.Repeat("now 0\n", 39))
	wantAnswer(t, strings.Repeat("now\n", 40)+"\n", tooLong)
	wantAnswer(t, "\n"+strings.Repeat("now\n", 40), tooLong)
	wantAnswer(t, strings.Repeat("\n", 41), tooLong)
	wantAnswer(t, strings.Repeat("now\n", 40)+" ", tooLong)
	wantAnswer(t, strings.Repeat("\n", 1000), tooLong)
}

func TestLastLineThatIsNotEnded(t *testing.T) {
	for _, s := range []string{"now", " ", "   ", "fly", "part 1\nview 1", "\n ", "\n\nx", "now\nnow", strings.Repeat("now\n", 39) + "now", "\x00", "ok\r"} {
		wantAnswer(t, s, tooLong)
		wantAnswer(t, s+"\n\n ", tooLong)
		if impl.RunScript(s+"\n") == tooLong {
			t.Errorf("%q, ended", s)
		}
	}
}

func TestNumberOfBytes(t *testing.T) {
	for n := 3997; n < 4004; n++ {
		for _, line := range []string{"now\n", "\n", "fly\n", "frame " + strings.Repeat("x", 90) + "\n"} {
			filled := line + strings.Repeat(" ", n-len(line)-1) + "\n"
			got := impl.RunScript(filled)
			if (got == tooLong) != (n > 4000) || got != scriptByHand(filled) {
				t.Errorf("%d bytes of %q: %q", n, line, got)
			}
		}
		if got := impl.RunScript(strings.Repeat("x", n-1) + "\n"); got == tooLong != (n > 4000) {
			t.Errorf("%d bytes of x: %q", n, got)
		}
	}
	row := strings.Repeat(strings.Repeat("y", 99)+"\n", 40)
	wantAnswer(t, row, strings.Repeat("what\n", 40))
	wantAnswer(t, "y"+row, tooLong)
	wantAnswer(t, row[1:], strings.Repeat("what\n", 40))
	wantAnswer(t, strings.Repeat("y", 4000), tooLong)
	wantAnswer(t, strings.Repeat("y", 1000000)+"\n", tooLong)
	// Bytes, not letters: each of these has three.
	wantAnswer(t, strings.Repeat("世", 1333)+"\n", "what\n")
	wantAnswer(t, strings.Repeat("世", 1333)+"x\n", tooLong)
}

// sampleHead makes a kernel in which each of the samples is no refusal.
var sampleHead = all("ok",
	"frame 4 0:2:1 2:2:2", "part 1", "part 2", "out 1 1", "in 2 1", "outq 1 2 3", "inq 2 2 2", "board 1 5",
	"proc 1 1 5 show 5 hi  you;read 5 0;run 3;loop", "proc 1 2 6 sleep 900;loop", "proc 2 7 1 fetch 1;loop", "start 1 2", "tick 5", "start 1 1")

// samples are the lines of the table behind sampleHead, each by itself.
var samples = talk(
	"frame 1 0:1:1", "ok", "part 3", "ok", "proc 1 9 5 run 3;loop", "ok", "sem 1 1 0 1", "ok", "event 1 1", "ok", "board 1 1", "ok", "buffer 1 1 5", "ok",
	"out 1 9", "ok", "in 1 9", "ok", "outq 1 9 5", "ok", "inq 1 9 5", "ok", "start 2 7", "ok", "stop 1 2", "ok", "chan 1 1 2 1", "ok", "tick 1", "ok",
	"view 1", "view 1 1:1:0:0 2:2:0:0", "got 1 1", "got ", "trace 4", "trace 1001 0 0 1001", "now", "now 5",
)

// sampleTail asks for all that can be asked of the kernel of sampleHead.
var sampleTail = talk("view 1", "view 1 1:1:0:0 2:2:0:0", "view 2", "view 2 7:0:0:0", "view 3", "no", "now", "now 5", "trace 9", "trace 1001 0 0 1001 1001 0 0 1001 1001")

func TestEachLineOfTheTable(t *testing.T) {
	if len(samples) != len(handForms) {
		t.Fatal("a line of the table has no sample")
	}
	for i, e := range samples {
		if wordOf(e.line) != wordOf(handForms[i]) {
			t.Fatal(e.line)
		}
		wantSaid(t, sampleHead, []exchange{e})
	}
	wantSaid(t, sampleHead, sampleTail)
}

// wantLeft says that the line says so behind sampleHead, and that the kernel
// is as it was.
func wantLeft(t *testing.T, line, says string) {
	t.Helper()
	wantAnswer(t, scriptIn(sampleHead, talk(line, says), sampleTail), saidIn(sampleHead, talk(line, says), sampleTail))
}

func hasText(line string) bool { return wordOf(line) == "frame" || wordOf(line) == "proc" }

// textAt is the place of the blank ahead of TEXT.
func textAt(line string) int {
	blanks := map[string]int{"frame": 1, "proc": 4}[wordOf(line)]
	for i := range line {
		if line[i] == ' ' {
			blanks--
		}
		if blanks == 0 {
			return i
		}
	}
	return len(line)
}

func TestBlanksBetweenWords(t *testing.T) {
	for _, e := range samples {
		wantLeft(t, " "+e.line, "what")
		wantLeft(t, "  "+e.line, "what")
		wantLeft(t, " "+e.line+" ", "what")
		if hasText(e.line) {
			wantLeft(t, e.line+" ", "no")
		} else {
			wantLeft(t, e.line+" ", "what")
			wantLeft(t, e.line+"  ", "what")
		}
		for i := range e.line {
			if e.line[i] != ' ' {
				continue
			}
			says := "what"
			if hasText(e.line) && i >= textAt(e.line) {
				says = "no"
			}
			wantLeft(t, e.line[:i]+" "+e.line[i:], says)
			wantLeft(t, e.line[:i]+"  "+e.line[i:], says)
			if says == "what" {
				wantLeft(t, e.line[:i]+"\t"+e.line[i+1:], says)
				wantLeft(t, e.line[:i]+e.line[i+1:], says)
			}
		}
	}
}

func TestTooFewAndTooManyWords(t *testing.T) {
	for _, e := range samples {
		words := strings.Split(e.line, " ")
		if hasText(e.line) {
			words = append(strings.Split(e.line[:textAt(e.line)], " "), e.line[textAt(e.line)+1:])
		} else {
			wantLeft(t, e.line+" 1", "what")
			wantLeft(t, e.line+" 0", "what")
			wantLeft(t, e.line+" x", "what")
			wantLeft(t, e.line+" 1 1", "what")
		}
		for n := 1; n < len(words); n++ {
			wantLeft(t, strings.Join(words[:n], " "), "what")
		}
	}
}

func TestWordsThatAreNoneOfTheTable(t *testing.T) {
	for _, e := range samples {
		word := wordOf(e.line)
		rest := strings.TrimPrefix(e.line, word)
		for _, other := range []string{"", "x", strings.ToUpper(word), strings.ToUpper(word[:1]) + word[1:], word + "s", word[1:], word + word, "\x00" + word, word + "\x00", word + "\r"} {
			if slices.ContainsFunc(samples, func(s exchange) bool { return wordOf(s.line) == other }) {
				continue
			}
			wantLeft(t, other+rest+".", "what")
			wantLeft(t, other+".", "what")
			if other+rest != "" {
				wantLeft(t, other+rest, "what")
			}
		}
	}
	wantLeft(t, "fly", "what")
	wantLeft(t, "ok", "what")
	wantLeft(t, "what", "what")
	wantLeft(t, "no", "what")
	wantLeft(t, "1", "what")
}

// notDecimal are no numbers in decimal, though some of them look it.
var notDecimal = []string{
	"+1", "01", "00", "-0", "-01", "+0", "--1", "-", "+", "1.0", "1e0", "0x1", "1_0", "x", "1x", "x1", "1,", "1;", "1:1", "\t1", "1\r", "１", "\xff",
	"10000000000", "-10000000000", "99999999999", "00000000001", "9223372036854775807", "9223372036854775808", "-9223372036854775809", "99999999999999999999999",
}

// eachNumber tells a sample with each of its numbers in turn as another one.
func eachNumber(e exchange, other string, tell func(line string)) {
	end := len(e.line)
	if hasText(e.line) {
		end = textAt(e.line)
	}
	words := strings.Split(e.line[:end], " ")
	for i := 1; i < len(words); i++ {
		changed := slices.Clone(words)
		changed[i] = other
		tell(strings.Join(changed, " ") + e.line[end:])
	}
}

func TestNumbersThatAreNotInDecimal(t *testing.T) {
	for _, e := range samples {
		for _, s := range notDecimal {
			eachNumber(e, s, func(line string) { wantLeft(t, line, "what") })
		}
		for _, s := range []string{"9999999999", "-9999999999", "-1", "1001", "9999999998"} {
			eachNumber(e, s, func(line string) { wantLeft(t, line, "no") })
		}
	}
}

func TestFrameLines(t *testing.T) {
	for line, says := range map[string]string{
		"frame": "what", "frame ": "no", "frame  ": "no", "frame x": "no", "frame  4": "no", "frame 4 ": "no", "frame 4  0:1:1": "no", "frame 0": "no", "frame -1": "no",
		"frame 1001": "no", "frame 01": "no", "frame +1": "no", "frame 4 0:2": "no", "frame 4 0:2:7": "no", "frame 4 0:2:0": "no", "frame 4 0:5:1": "no", "frame 4 0:0:1": "no",
		"frame 4 0:2:1 1:1:2": "no", "frame 4 0:2:1;": "no", "frames 4": "what", "frame4": "what", "frame frame 4": "no", "frame 4 0:2:1 2:2:x": "no", "frame\t4": "what",
		"frame 20" + manyWindowsText(21): "no",
	} {
		wantLeft(t, line, says)
	}
	parts := all("ok", "part 1", "part 2", "part 6", "proc 1 1 1 loop", "proc 2 1 1 loop", "proc 6 1 1 loop", "start 1 1", "start 2 1", "start 6 1")
	wantSaid(t, parts, talk("trace 4", "trace 0 0 0 0", "frame 1", "ok", "trace 2", "trace 0 0",
		"frame 1 0:1:2", "ok", "trace 3", "trace 2001 2001 2001",
		"frame 3 0:1:1 2:1:6", "ok", "trace 5", "trace 1001 0 6001 1001 0",
		"tick 4", "ok", "trace 4", "trace 0 6001 1001 0",
		// The time is that of before, in the new frame.
		"frame 5 4:1:2", "ok", "trace 3", "trace 2001 0 0", "now", "now 4",
		// A window of one that is not there.
		"frame 2 0:1:3 1:1:1", "ok", "trace 3", "trace 0 1001 0",
		"frame 1000 0:1000:6", "ok", "trace 2", "trace 6001 6001",
		"frame 20"+manyWindowsText(20), "ok", "trace 7", "trace 0 6001 1001 2001 0 0 0"))
}

// manyWindowsText is of windows of length 1 that touch.
func manyWindowsText(n int64) string {
	s := ""
	for _, w := range manyWindows(n) {
		s += fmt.Sprintf(" %d:1:%d", w.At, w.Part)
	}
	return s
}

func TestPartLines(t *testing.T) {
	wantSaid(t, talk("part 1", "ok", "part 1", "no", "part 0", "no", "part 7", "no", "part -1", "no", "part 1000", "no", "part", "what", "part x", "what"),
		all("ok", "part 6", "part 3", "part 2", "part 5", "part 4"), all("no", "part 1", "part 2", "part 3", "part 4", "part 5", "part 6", "part 7"),
		talk("view 1", "view 1", "view 6", "view 6", "view 7", "no", "view 0", "no"))
	for id := int64(-1); id < 9; id++ {
		says, view := "no", "no"
		if within(id, 1, 6) {
			says, view = "ok", fmt.Sprintf("view %d", id)
		}
		wantSaid(t, talk(fmt.Sprintf("part %d", id), says, fmt.Sprintf("view %d", id), view))
	}
	// One that is there stays what it was.
	wantLeft(t, "part 1", "no")
	wantLeft(t, "part 2", "no")
	wantSaid(t, all("ok", "part 2", "part 1", "proc 2 3 4 loop", "start 2 3", "proc 1 5 4 loop", "frame 2 0:1:2 1:1:1", "part 6"), talk("trace 3", "trace 2003 0 2003", "view 2", "view 2 3:1:0:0", "view 1", "view 1 5:0:0:0"))
}

func TestProcLines(t *testing.T) {
	for line, says := range map[string]string{
		"proc": "what", "proc ": "what", "proc 1": "what", "proc 1 3": "what", "proc 1 3 5": "what", "proc 1 3 5 ": "no", "proc 1 3 5  ": "no", "proc 1 3 5  loop": "no", "proc 1 3 5 loop ": "no",
		"proc   ": "what", "proc    ": "what", "proc     ": "what", "proc 1   loop": "what", "proc 1 3  loop": "what", "proc  1 3 5 loop": "what", "proc 1  3 5 loop": "what",
		"proc x 3 5 loop": "what", "proc 1 x 5 loop": "what", "proc 1 3 x loop": "what", "proc 1 3 loop": "what", "proc 1 3 loop loop": "what", "proc 1 3 loop ": "what", "proc x 3 5 ": "what",
		"proc 1 3 5 x": "no", "proc 1 3 5 run": "no", "proc 1 3 5 run 0": "no", "proc 1 3 5 run 1;": "no", "proc 1 3 5 ;run 1": "no", "proc 1 3 5 run 1; run 1": "no", "proc 1 3 5 run 1 1": "no",
		"proc 1 3 0 loop": "no", "proc 1 3 51 loop": "no", "proc 1 3 -5 loop": "no", "proc 1 0 5 loop": "no", "proc 1 1001 5 loop": "no", "proc 1 1 5 loop": "no", "proc 1 2 5 loop": "no",
		"proc 3 3 5 loop": "no", "proc 0 3 5 loop": "no", "proc 9 3 5 loop": "no", "proc 3 3 5": "what", "proc 3 3 5 ": "no", "proc 3 3 5 x": "no",
		"proc 1 3 5 " + strings.Repeat("loop;", 20) + "loop": "no", "proc 1 3 5 send 1 1": "no", "proc 1 3 5 send 1 1 123456789012345678901": "no", "proc 1 3 5 send 1 1 a\x7fb": "no",
	} {
		wantLeft(t, line, says)
	}
	for _, line := range []string{"proc 1 3 5 loop", "proc 1 1000 5 loop", "proc 1 3 1 loop", "proc 1 3 50 loop", "proc 1 3 5 send 1 1 ", "proc 1 3 5 send 1 -1  a  b ;loop",
		"proc 1 3 5 " + strings.Repeat("loop;", 19) + "loop", "proc 2 1 5 write 1 proc 1 3 5 loop"} {
		wantSaid(t, sampleHead, talk(line, "ok", line, "no"))
	}
	wantSaid(t, all("ok", "part 1", "proc 1 9 1 loop", "proc 1 2 1 loop", "proc 1 1 1 loop", "proc 1 1000 1 loop", "proc 1 999 1 loop", "proc 1 3 1 loop"), all("no", "proc 1 4 1 loop", "proc 1 3 1 loop"),
		talk("view 1", "view 1 1:0:0:0 2:0:0:0 3:0:0:0 9:0:0:0 999:0:0:0 1000:0:0:0"))
	// The priority is the third number, the Id the second.
	wantSaid(t, all("ok", "frame 1 0:1:4", "part 4", "proc 4 2 7 run 1", "proc 4 7 2 run 1", "proc 4 1 7 run 2", "start 4 7", "start 4 1", "start 4 2"), talk("trace 5", "trace 4001 4001 4002 4007 0"))
}

// TestTextsWithBlanks has texts in a program that begin and end with blanks,
// and that look like lines.
func TestTextsWithBlanks(t *testing.T) {
	for _, s := range []string{"", " ", "  ", "hi", "hi there", " hi", "hi ", "  a  b  ", "proc 1 1 5 loop", "1", "123456789 123456789 ", "no", "~!:,"} {
		wantSaid(t, all("ok", "frame 1 0:1:1", "part 1", "board 1 1", "proc 1 1 5 show 1 "+s+";read 1 0;run 9", "start 1 1"),
			talk("got 1 1", "got ", "tick 1", "ok", "got 1 1", "got ", "tick 1", "ok", "got 1 1", "got "+s, "tick 20", "ok", "got 1 1", "got "+s))
		wantSaid(t, all("ok", "frame 1 0:1:1", "part 1", "board 1 1", "proc 1 1 5 read 1 0;show 1 "+s, "start 1 1", "tick 1"), talk("got 1 1", "got ", "view 1", "view 1 1:1:1:1"))
	}
}

func TestThingLines(t *testing.T) {
	for line, says := range map[string]string{
		"sem 1 1 0 0": "no", "sem 1 1 2 1": "no", "sem 1 1 -1 1": "no", "sem 1 0 0 1": "no", "sem 1 1001 0 1": "no", "sem 1 1 0 1001": "no", "sem 3 1 0 1": "no", "sem 1 1 0": "what",
		"event 1 0": "no", "event 1 1001": "no", "event 3 1": "no", "event 1": "what", "event 1 1 1": "what",
		"board 1 0": "no", "board 1 1001": "no", "board 1 5": "no", "board 3 1": "no", "board 1": "what", "board 1 1 x": "what",
		"buffer 1 1 0": "no", "buffer 1 1 6": "no", "buffer 1 0 1": "no", "buffer 1 1001 1": "no", "buffer 3 1 1": "no", "buffer 1 1": "what",
		"out 1 0": "no", "out 1 1001": "no", "out 1 1": "no", "out 1 2": "no", "out 3 1": "no", "out 1 9 1": "what", "out 1": "what",
		"in 1 0": "no", "in 1 1001": "no", "in 1 1": "no", "in 3 1": "no", "in 1 9 1": "what", "in 1": "what",
		"outq 1 9 0": "no", "outq 1 9 6": "no", "outq 1 1 1": "no", "outq 3 1 1": "no", "outq 1 9": "what",
		"inq 1 9 0": "no", "inq 1 9 6": "no", "inq 1 1 1": "no", "inq 3 1 1": "no", "inq 1 9": "what",
	} {
		wantLeft(t, line, says)
	}
	for _, line := range []string{"sem 1 1 0 1", "sem 1 1000 1 1", "sem 1 5 1000 1000", "sem 2 1 0 1000", "event 1 1", "event 1 1000", "event 2 1", "board 1 1000", "board 2 5",
		"buffer 1 1 1", "buffer 1 1000 5", "out 1 9", "in 2 1000", "outq 1 9 1", "outq 2 9 5", "inq 2 9 1", "inq 1 1000 5"} {
		wantSaid(t, sampleHead, talk(line, "ok", line, "no"), sampleTail)
	}
	for _, line := range []string{"sem 1 %d 0 1", "event 1 %d", "board 1 %d", "buffer 1 %d 1", "out 1 %d", "in 1 %d", "outq 1 %d 2", "inq 1 %d 2"} {
		five := all("ok", "part 1")
		for _, id := range []int{9, 3, 1000, 1, 4} {
			five = append(five, exchange{fmt.Sprintf(line, id), "ok"})
		}
		wantSaid(t, five, talk(fmt.Sprintf(line, 2), "no", fmt.Sprintf(line, 3), "no"))
	}
}

// wantCodes runs a program of the process 1 among the things, and says with
// which code it is past each op, and what it has got in the end.
func wantCodes(t *testing.T, things []exchange, prog, codes, got string) {
	t.Helper()
	asks := []exchange{}
	for i, code := range strings.Split(codes, " ") {
		asks = append(asks, talk("tick 1", "ok", "view 1", fmt.Sprintf("view 1 1:1:%d:%s", i+1, code))...)
	}
	wantSaid(t, all("ok", "frame 1 0:1:1", "part 1"), things, all("ok", "proc 1 1 1 "+prog+";run 9", "start 1 1"), asks, talk("got 1 1", "got "+got))
}

// TestThingsAreAsTheLinesSay asks for the numbers of a thing by what a process
// can do with it.
func TestThingsAreAsTheLinesSay(t *testing.T) {
	wantCodes(t, all("ok", "sem 1 4 2 3"), "signal 4;signal 4;wait 4 0;wait 4 0;wait 4 0;wait 4 0;signal 4", "0 1 0 0 0 1 0", "")
	wantCodes(t, all("ok", "sem 1 4 0 1"), "wait 4 0;signal 4;signal 4;wait 3 0", "1 0 1 3", "")
	wantCodes(t, all("ok", "event 1 4"), "await 4 0;set 4;await 4 0;reset 4;await 4 0;set 3", "1 0 0 0 1 3", "")
	wantCodes(t, all("ok", "board 1 4"), "read 4 0;show 4 x y;read 4 0;show 3 z", "1 0 0 3", "x y")
	wantCodes(t, all("ok", "buffer 1 4 2"), "take 4 0;send 4 0 a;send 4 0 b;send 4 0 c;take 4 0;send 4 0 d;take 4 0", "1 0 0 1 0 0 0", "b")
	wantCodes(t, all("ok", "buffer 1 4 1"), "send 4 0 a;send 4 0 b;take 4 0;take 3 0", "0 1 0 3", "a")
	wantCodes(t, all("ok", "out 1 4"), "write 4 a;write 4 b;fetch 4;write 3 a", "0 0 3 3", "")
	wantCodes(t, all("ok", "in 1 4"), "fetch 4;write 4 b;fetch 3", "1 3 3", "")
	wantCodes(t, all("ok", "outq 1 4 2"), "write 4 a;write 4 b;write 4 c;fetch 4", "0 0 1 3", "")
	wantCodes(t, all("ok", "outq 1 4 1"), "write 4 a;write 4 b", "0 1", "")
	wantCodes(t, all("ok", "inq 1 4 2"), "fetch 4;write 4 b", "1 3", "")
	// Each list has Ids of its own.
	wantCodes(t, all("ok", "sem 1 1 1 1", "event 1 1", "board 1 1", "buffer 1 1 1", "out 1 1"), "wait 1 0;set 1;show 1 a;send 1 0 b;write 1 c;read 1 0;start 1;stop 2", "0 0 0 0 0 0 1 3", "a")
	// In the partition that is named, no other.
	wantCodes(t, all("ok", "part 2", "sem 2 4 1 1", "event 2 4", "board 2 4", "buffer 2 4 1", "out 2 4", "inq 2 5 1"), "wait 4 0;set 4;show 4 a;send 4 0 a;write 4 a;fetch 5", "3 3 3 3 3 3", "")
}

func TestStartAndStopLines(t *testing.T) {
	wantLeft(t, "start 1 1", "no")
	wantLeft(t, "start 1 2", "no")
	wantLeft(t, "stop 2 7", "no")
	for _, word := range []string{"start", "stop"} {
		for _, rest := range []string{" 1 3", " 1 0", " 1 7", " 2 1", " 3 1", " 0 1", " 9 1"} {
			wantLeft(t, word+rest, "no")
		}
		for _, rest := range []string{"", " 1", " 1 1 1", " x 1", " 1 x"} {
			wantLeft(t, word+rest, "what")
		}
	}
	// Those that are started come in their order, and begin anew.
	wantSaid(t, all("ok", "frame 1 0:1:1", "part 1", "proc 1 1 1 run 2;run 1", "proc 1 2 1 run 2;run 1", "start 1 2", "start 1 1"), talk("trace 7", "trace 1002 1002 1002 1001 1001 1001 0",
		"tick 2", "ok", "view 1", "view 1 1:1:0:0 2:1:1:0", "stop 1 2", "ok", "stop 1 2", "no", "view 1", "view 1 1:1:0:0 2:0:0:0", "trace 4", "trace 1001 1001 1001 0",
		"start 1 2", "ok", "start 1 2", "no", "trace 7", "trace 1001 1001 1001 1002 1002 1002 0", "tick 6", "ok", "view 1", "view 1 1:0:0:0 2:0:0:0", "stop 1 1", "no", "start 1 1", "ok", "view 1", "view 1 1:1:0:0 2:0:0:0"))
	// One that waits can be stopped; what it has got stays.
	wantSaid(t, all("ok", "frame 1 0:1:1", "part 1", "board 1 1", "sem 1 1 0 1", "proc 1 1 1 show 1 it;read 1 0;wait 1 -1", "start 1 1", "tick 3"),
		talk("view 1", "view 1 1:3:2:0", "start 1 1", "no", "stop 1 1", "ok", "got 1 1", "got it", "start 1 1", "ok", "got 1 1", "got it", "view 1", "view 1 1:1:0:0"))
}

// portHead has ports of each kind in 1, 2 and 3, and none in 4.
var portHead = all("ok", "part 1", "part 2", "part 3", "part 4", "out 1 1", "out 1 2", "outq 1 3 2", "in 1 4", "inq 1 5 2",
	"out 2 1", "in 2 2", "in 2 3", "inq 2 4 2", "inq 2 5 2", "in 3 1", "inq 3 2 3", "outq 3 3 5")

func TestChanLines(t *testing.T) {
	for _, line := range []string{"chan 1 1 2 2", "chan 1 2 2 3", "chan 1 3 2 4", "chan 1 1 3 1", "chan 2 1 1 4", "chan 3 3 1 5", "chan 3 3 2 5"} {
		wantSaid(t, portHead, talk(line, "ok", line, "no"))
	}
	wantSaid(t, portHead, all("no",
		"chan 5 1 2 2", "chan 1 1 5 2", "chan 0 1 2 2", "chan 1 1 0 2", "chan 1 1 7 2", "chan 9 9 9 9", // no such partition
		"chan 1 1 1 4", "chan 1 3 1 5", // within one partition
		"chan 1 9 2 2", "chan 1 1 2 9", "chan 1 1 4 1", "chan 4 1 2 2", "chan 1 0 2 2", "chan 1 1 2 0", // no such port
		"chan 1 4 2 2", "chan 1 5 2 4", // from one that is not Out
		"chan 1 1 2 1"), // to one that is Out
		all("what", "chan", "chan 1 1 2", "chan 1 1 2 2 2", "chan 1 1 2 x"))
	wantSaid(t, portHead, all("no", "chan 1 1 2 4", "chan 1 3 2 2"), // with Queue and without
		all("ok", "chan 1 1 2 2", "chan 1 3 2 4"),
		all("no", "chan 1 2 2 2", "chan 1 3 2 5", "chan 1 3 3 2"), // to one port, and from one with Queue
		all("ok", "chan 1 1 2 3", "chan 3 3 2 5", "chan 1 1 3 1"),
		all("no", "chan 3 3 1 5"))
	// A refusal leaves the port to another.
	wantSaid(t, portHead, talk("chan 1 1 2 4", "no", "chan 1 3 2 4", "ok", "chan 3 3 2 4", "no", "chan 3 3 2 5", "ok"))
}

func TestNumberOfChanLines(t *testing.T) {
	head := all("ok", "part 1", "part 2", "part 3", "part 4", "out 1 1", "in 4 1", "frame 4 0:1:1 1:1:4", "proc 1 1 1 write 1 w", "proc 4 1 1 run 2;fetch 1", "start 1 1", "start 4 1")
	var chans []exchange
	for _, part := range []int{2, 3} {
		for id := 1; id <= 5; id++ {
			head = append(head, exchange{fmt.Sprintf("in %d %d", part, id), "ok"})
			chans = append(chans, exchange{fmt.Sprintf("chan 1 1 %d %d", part, id), "ok"})
		}
	}
	wantSaid(t, head, chans, talk("chan 1 1 4 1", "no", "tick 20", "ok", "got 4 1", "got ", "view 4", "view 4 1:0:0:1"))
	wantSaid(t, head, chans[1:], talk("chan 1 1 4 1", "ok", "tick 20", "ok", "got 4 1", "got w", "view 4", "view 4 1:0:0:0"))
}

func TestChannelsCarry(t *testing.T) {
	head := all("ok", "frame 2 0:1:1 1:1:2", "part 1", "part 2", "outq 1 1 3", "inq 2 5 2", "out 1 2", "in 2 6")
	procs := all("ok", "proc 1 1 1 write 1 a;write 1 b c;write 1 d;write 2 e;write 2 f", "proc 2 1 1 run 5;fetch 5;fetch 5;fetch 5;fetch 5;fetch 6;fetch 6", "start 1 1", "start 2 1")
	carried := slices.Concat(talk("tick 12", "ok", "got 2 1", "got a"), talk("tick 2", "ok", "got 2 1", "got b c", "view 2", "view 2 1:1:3:0"))
	// The third waits in 1 until there is room in 2 and 1 owns a time again.
	wantSaid(t, head, talk("chan 1 1 2 5", "ok", "chan 1 2 2 6", "ok"), procs, carried, talk("tick 2", "ok", "got 2 1", "got d", "tick 2", "ok", "got 2 1", "got ", "view 2", "view 2 1:1:5:1",
		"tick 2", "ok", "got 2 1", "got f", "tick 2", "ok", "got 2 1", "got f", "view 2", "view 2 1:0:0:0"))
	wantSaid(t, head, procs, talk("tick 12", "ok", "got 2 1", "got ", "view 2", "view 2 1:1:2:1"))
}

func TestTickAndNowLines(t *testing.T) {
	wantSaid(t, talk("now", "now 0", "tick 0", "ok", "now", "now 0", "tick 1", "ok", "now", "now 1", "tick 200", "ok", "now", "now 201", "tick 201", "no", "now", "now 201",
		"tick -1", "no", "tick 1000000000", "no", "now", "now 201", "tick 199", "ok", "now", "now 400", "tick 0", "ok", "now", "now 400"))
	wantLeft(t, "tick 201", "no")
	wantLeft(t, "tick -1", "no")
	wantLeft(t, "tick 0", "ok")
	for _, line := range []string{"tick", "tick x", "tick 1 1", "tick 1 ", "now 1", "now ", "now now", "now 0"} {
		wantLeft(t, line, "what")
	}
	wantAnswer(t, strings.Repeat("tick 200\n", 39)+"now\n", strings.Repeat("ok\n", 39)+"now 7800\n")
	for _, pieces := range [][]exchange{
		talk("tick 6", "ok"),
		talk("tick 2", "ok", "tick 4", "ok"),
		talk("tick 1", "ok", "tick 0", "ok", "tick 5", "ok"),
		talk("tick 3", "ok", "tick 201", "no", "tick 3", "ok"),
		talk("trace 3", "trace 1001 0 0", "tick 6", "ok"),
	} {
		wantSaid(t, sampleHead, pieces, talk("now", "now 11", "view 1", "view 1 1:1:2:0 2:2:0:0", "got 1 1", "got hi  you", "trace 3", "trace 0 1001 1001"))
	}
}

func TestTraceLines(t *testing.T) {
	wantSaid(t, talk("trace 0", "trace", "trace 1", "trace 0", "trace 3", "trace 0 0 0", "trace 200", "trace"+strings.Repeat(" 0", 200), "trace 201", "no", "trace -1", "no", "now", "now 0"))
	head := all("ok", "frame 3 0:1:1 1:1:6", "part 1", "part 6", "proc 1 1 1 loop", "proc 6 1000 9 loop", "start 1 1", "start 6 1000")
	wantSaid(t, head, talk("trace 0", "trace", "trace 1", "trace 1001", "trace 2", "trace 1001 7000", "trace 7", "trace 1001 7000 0 1001 7000 0 1001", "now", "now 0",
		"tick 1", "ok", "trace 1", "trace 7000", "trace 2", "trace 7000 0", "trace 199", "trace"+strings.Repeat(" 7000 0 1001", 66)+" 7000",
		"trace 200", "trace"+strings.Repeat(" 7000 0 1001", 66)+" 7000 0", "trace 201", "no", "now", "now 1"))
	for _, line := range []string{"trace", "trace ", "trace x", "trace 1 1", "trace 01"} {
		wantLeft(t, line, "what")
	}
	wantLeft(t, "trace 201", "no")
	wantLeft(t, "trace -1", "no")
}

func TestViewLines(t *testing.T) {
	wantSaid(t, talk("view 1", "no", "part 1", "ok", "view 1", "view 1", "view 2", "no", "part 6", "ok", "view 6", "view 6", "sem 1 1 0 1", "ok", "view 1", "view 1", "view", "what", "view x", "what", "view 1 1", "what"))
	// A process in each state, and with each code.
	wantSaid(t, all("ok", "frame 1 0:1:5", "part 5", "sem 5 1 0 1", "event 5 1", "buffer 5 1 1", "board 5 1",
		"proc 5 1 9 sleep 900", "proc 5 22 8 run 1;wait 1 -1", "proc 5 333 7 run 1;wait 9 5;await 1 900", "proc 5 4 6 send 1 0 a;send 1 -1 b", "proc 5 5 5 read 1 0;read 1 5", "proc 5 1000 4 fetch 1;run 1000"),
		talk("view 5", "view 5 1:0:0:0 4:0:0:0 5:0:0:0 22:0:0:0 333:0:0:0 1000:0:0:0"),
		all("ok", "start 5 1", "start 5 22", "start 5 333", "start 5 4", "start 5 5", "start 5 1000"),
		talk("view 5", "view 5 1:1:0:0 4:1:0:0 5:1:0:0 22:1:0:0 333:1:0:0 1000:1:0:0", "tick 10", "ok", "view 5", "view 5 1:2:0:0 4:5:1:0 5:7:1:1 22:3:1:0 333:4:2:3 1000:1:0:0",
			"tick 3", "ok", "view 5", "view 5 1:2:0:0 4:5:1:0 5:7:1:1 22:3:1:0 333:4:2:3 1000:1:1:3", "tick 2", "ok", "view 5", "view 5 1:2:0:0 4:5:1:0 5:0:0:2 22:3:1:0 333:4:2:3 1000:1:1:3"))
	wantSaid(t, all("ok", "frame 1 0:1:1", "part 1", "buffer 1 1 1", "proc 1 1 1 take 1 -1", "start 1 1", "tick 1"), talk("view 1", "view 1 1:6:0:0"))
}

func TestGotLines(t *testing.T) {
	wantSaid(t, talk("got 1 1", "no", "part 1", "ok", "got 1 1", "no", "proc 1 1 1 loop", "ok", "got 1 1", "got ", "got 1 2", "no", "got 2 1", "no", "got 1 0", "no", "got 0 1", "no",
		"got", "what", "got 1", "what", "got 1 1 1", "what", "got x 1", "what", "got 1 x", "what", "got 1 1 ", "what"))
	wantSaid(t, all("ok", "frame 2 0:1:1 1:1:2", "part 1", "part 2", "buffer 1 1 5", "buffer 2 1 5", "proc 1 1 2 send 1 0  a b ;send 1 0 c", "proc 1 2 1 take 1 0;take 1 0;take 1 0", "proc 2 2 1 send 1 0 d;take 1 0"),
		all("ok", "start 1 1", "start 1 2", "start 2 2", "tick 6"), talk("got 1 2", "got  a b ", "got 2 2", "got d", "got 1 1", "got ", "tick 2", "ok", "got 1 2", "got c", "tick 2", "ok", "got 1 2", "got ", "got 2 2", "got d"))
}

func TestScriptsAgainstTheRules(t *testing.T) {
	seen := map[string]int{}
	d := &dice{state: 81}
	for range 3000 {
		l := rolledLines(d, 8+d.below(33))
		script := scriptOf(l)
		want := scriptByHand(script)
		got := impl.RunScript(script)
		if got != want {
			t.Fatalf("%q: %q, want %q", script, got, want)
		}
		if got == tooLong {
			continue
		}
		l = slices.DeleteFunc(l, func(line string) bool { return strings.Trim(line, " ") == "" })
		for i, says := range strings.SplitAfter(got, "\n")[:len(l)] {
			seen[wordOf(l[i])+" "+strings.TrimSpace(wordOf(says))]++
		}
	}
	for _, form := range handForms {
		word := wordOf(form)
		wants := []string{"ok", "no", "what"}
		switch word {
		case "frame":
			wants = []string{"ok", "no"}
		case "view", "got", "trace":
			wants[0] = word
		case "now":
			wants = []string{"now"}
		}
		for _, says := range wants {
			if seen[word+" "+says] < 10 {
				t.Error("hardly seen", word, says, seen[word+" "+says])
			}
		}
	}
}

// TestWhatIsSaidStaysSaid has each beginning of a script, and the same with
// other lines behind it.
func TestWhatIsSaidStaysSaid(t *testing.T) {
	d := &dice{state: 82}
	talks := 0
	for range 100 {
		l := rolledLines(d, 40)
		other := rolledLines(d, 40)
		whole := impl.RunScript(scriptOf(l))
		if whole == tooLong {
			continue
		}
		talks++
		for n := range l {
			first := impl.RunScript(scriptOf(l[:n]))
			if !strings.HasPrefix(whole, first) {
				t.Fatalf("%q: %q, of the whole %q", l[:n], first, whole)
			}
			more := scriptOf(slices.Concat(l[:n], other[:min(len(other), 40-n)]))
			if len(more) <= 4000 && !strings.HasPrefix(impl.RunScript(more), first) {
				t.Fatalf("%q: %q", more, first)
			}
			if says := strings.Count(first, "\n"); says != n-countBlank(l[:n]) {
				t.Fatalf("%q: %d lines", l[:n], says)
			}
		}
	}
	if talks < 60 {
		t.Error("hardly any", talks)
	}
}

func countBlank(l []string) int {
	n := 0
	for _, line := range l {
		if strings.Trim(line, " ") == "" {
			n++
		}
	}
	return n
}

// asking are lines that ask, or say nothing, or are refused at any time.
func asking(d *dice) string {
	id, other := d.below(8), d.below(8)
	return []string{"", " ", "   ", "now", fmt.Sprintf("view %d", id), fmt.Sprintf("got %d %d", id, other), fmt.Sprintf("trace %d", d.below(203)), "tick 201", "what", "view", "tick 0"}[d.below(11)]
}

// TestLinesThatAskChangeNothing lays such lines between those of a script, and
// takes what they say out of the answer again.
func TestLinesThatAskChangeNothing(t *testing.T) {
	d := &dice{state: 83}
	talks := 0
	for range 1000 {
		l := slices.DeleteFunc(rolledLines(d, 20), func(line string) bool { return strings.Trim(line, " ") == "" })
		var mixed []string
		var own []int
		says := 0
		for _, line := range l {
			for d.below(2) == 0 && len(mixed)+len(l) < 40 {
				ask := asking(d)
				mixed = append(mixed, ask)
				says += 1 - countBlank([]string{ask})
			}
			mixed = append(mixed, line)
			own = append(own, says)
			says++
		}
		script := scriptOf(mixed)
		if len(mixed) > 40 || len(script) > 4000 {
			continue
		}
		talks++
		said := strings.SplitAfter(impl.RunScript(script), "\n")
		rest := ""
		for _, place := range own {
			rest += said[place]
		}
		if want := impl.RunScript(scriptOf(l)); rest != want || len(said) != says+1 {
			t.Fatalf("%q: %q, want %q", mixed, said, want)
		}
	}
	if talks < 500 {
		t.Error("hardly any", talks)
	}
}

// TestRefusalsChangeNothing takes the lines that said no or what out of a
// script: all others say the same.
func TestRefusalsChangeNothing(t *testing.T) {
	d := &dice{state: 84}
	for range 500 {
		l := slices.DeleteFunc(rolledLines(d, 40), func(line string) bool { return strings.Trim(line, " ") == "" })
		said := impl.RunScript(scriptOf(l))
		if said == tooLong {
			continue
		}
		var kept []string
		want := ""
		for i, says := range strings.SplitAfter(said, "\n")[:len(l)] {
			if says != "no\n" && says != "what\n" {
				kept = append(kept, l[i])
				want += says
			}
		}
		if got := impl.RunScript(scriptOf(kept)); got != want {
			t.Fatalf("%q: %q, want %q", kept, got, want)
		}
	}
}

func TestScriptsOfAnyBytes(t *testing.T) {
	d := &dice{state: 85}
	long := 0
	for i := range 20000 {
		var b []byte
		for range d.below(60) {
			b = append(b, byte(d.below(256)))
		}
		s := string(b) + "\n"
		if i%2 == 0 {
			s = d.garbled(scriptOf(rolledLines(d, 8)), "\n\n\r\t\x00 0:;-x\xff")
		}
		got := impl.RunScript(s)
		if got != scriptByHand(s) {
			t.Fatalf("%q: %q", s, got)
		}
		if got == tooLong {
			long++
		}
	}
	if long < 100 || long > 10000 {
		t.Error("rolled too one-sidedly:", long)
	}
}

// TestScriptsKeepNothing says that no script finds what another one left, not
// even of those that run at the same time.
func TestScriptsKeepNothing(t *testing.T) {
	d := &dice{state: 86}
	var scripts, said []string
	for range 100 {
		s := scriptOf(rolledLines(d, 40))
		scripts = append(scripts, s)
		said = append(said, impl.RunScript(s))
	}
	wantAnswer(t, "now\nview 1\npart 1\nview 1\n", "now 0\nno\nok\nview 1\n")
	for i := len(scripts) - 1; i >= 0; i-- {
		var all sync.WaitGroup
		for range 4 {
			all.Go(func() {
				if got := impl.RunScript(scripts[i]); got != said[i] {
					t.Errorf("%q: %q, and at first %q", scripts[i], got, said[i])
				}
			})
		}
		all.Wait()
	}
}
