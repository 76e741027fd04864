package tests

import (
	"fmt"
	"regexp"
	"slices"
	"strconv"
	"strings"

	"loop.example/g00313/impl"
)

// handForms are the lines of the table of chapter 8, a letter for a number.
var handForms = []string{
	"frame TEXT", "part P", "proc P I N TEXT", "sem P I N M", "event P I", "board P I", "buffer P I N", "out P I", "in P I", "outq P I N", "inq P I N",
	"start P I", "stop P I", "chan P I Q J", "tick N", "view P", "got P I", "trace N", "now",
}

// handPatterns are the same, as what a whole line must match.
var handPatterns = func() []*regexp.Regexp {
	var l []*regexp.Regexp
	for _, form := range handForms {
		words := strings.Split(form, " ")
		for i, word := range words {
			if len(word) == 1 {
				words[i] = `(0|-?[1-9][0-9]{0,9})`
			}
			if word == "TEXT" {
				words[i] = `(.*)`
			}
		}
		l = append(l, regexp.MustCompile(`(?s)^`+strings.Join(words, " ")+`$`))
	}
	return l
}()

func wordOf(line string) string { return strings.Split(line, " ")[0] }

// handScript goes through a script on a Kernel that stays one throughout.
type handScript struct{ k impl.Kernel }

func scriptByHand(text string) string {
	if text == "" {
		return ""
	}
	l := strings.Split(text, "\n")
	if len(text) > 4000 || len(l) > 41 || l[len(l)-1] != "" {
		return "too long\n"
	}
	h := &handScript{k: impl.Kernel{Frame: frame(1)}}
	said := ""
	for _, line := range l {
		if line != strings.Repeat(" ", len(line)) {
			said += h.said(line) + "\n"
		}
	}
	return said
}

func (h *handScript) said(line string) string {
	for _, pattern := range handPatterns {
		m := pattern.FindStringSubmatch(line)
		if m == nil {
			continue
		}
		word, text := wordOf(line), ""
		if word == "frame" || word == "proc" {
			text = m[len(m)-1]
			m = m[:len(m)-1]
		}
		var n [4]int64
		for i, s := range m[1:] {
			n[i], _ = strconv.ParseInt(s, 10, 64)
		}
		return h.obeyed(word, n, text)
	}
	return "what"
}

func (h *handScript) obeyed(word string, n [4]int64, text string) string {
	switch word {
	case "view", "got", "trace", "now":
		return h.asked(word, n)
	}
	k := copied(h.k)
	ok := true
	switch word {
	case "frame":
		k.Frame, ok = impl.ReadFrame(text)
	case "part":
		k.Parts = putIn(k.Parts, impl.Part{Id: n[0], Next: 1}, func(p impl.Part) int64 { return p.Id })
	case "chan":
		k.Chans = append(k.Chans, impl.Chan{From: n[0], FromPort: n[1], To: n[2], ToPort: n[3]})
	case "tick":
		if ok = within(n[0], 0, 200); ok {
			k, ok = ranByHand(k, n[0])
		}
	default:
		p := partAt(&k, n[0])
		ok = p != nil && laidByHand(p, word, n, text)
	}
	if !ok || !ruledKernel(k) {
		return "no"
	}
	h.k = k
	return "ok"
}

// laidByHand may leave a partition that is not right.
func laidByHand(p *impl.Part, word string, n [4]int64, text string) bool {
	id := n[1]
	switch word {
	case "proc":
		l, ok := impl.ReadProg(text)
		p.Procs = putIn(p.Procs, impl.Proc{Id: id, Prio: n[2], Prog: l}, func(x impl.Proc) int64 { return x.Id })
		return ok
	case "sem":
		p.Sems = putIn(p.Sems, impl.Sem{Id: id, N: n[2], Max: n[3]}, func(x impl.Sem) int64 { return x.Id })
	case "event":
		p.Events = putIn(p.Events, impl.Event{Id: id}, func(x impl.Event) int64 { return x.Id })
	case "board":
		p.Boards = putIn(p.Boards, impl.Board{Id: id}, func(x impl.Board) int64 { return x.Id })
	case "buffer":
		p.Buffers = putIn(p.Buffers, impl.Buffer{Id: id, Max: n[2]}, func(x impl.Buffer) int64 { return x.Id })
	case "out", "in", "outq", "inq":
		q := impl.Port{Id: id, Out: strings.HasPrefix(word, "out"), Queue: strings.HasSuffix(word, "q"), Max: n[2]}
		if !q.Queue {
			q.Max = 1
		}
		p.Ports = putIn(p.Ports, q, func(x impl.Port) int64 { return x.Id })
	case "start", "stop":
		return turnedByHand(p, procAt(p, id), word == "start")
	}
	return true
}

func turnedByHand(p *impl.Part, x *impl.Proc, start bool) bool {
	switch {
	case x == nil || start != (x.State == impl.PsDormant):
		return false
	case start:
		x.State, x.Since = impl.PsReady, p.Next
		p.Next++
	default:
		*x = dormant(*x)
	}
	return true
}

func (h *handScript) asked(word string, n [4]int64) string {
	p := partAt(&h.k, n[0])
	switch {
	case word == "now":
		return fmt.Sprintf("now %d", h.k.Now)
	case word == "trace" && within(n[0], 0, 200):
		l, _ := runnersByHand(h.k, n[0])
		return strings.TrimRight("trace "+strings.Trim(fmt.Sprint(l), "[]"), " ")
	case word == "view" && p != nil:
		words := []string{"view", fmt.Sprint(p.Id)}
		for _, x := range p.Procs {
			words = append(words, fmt.Sprintf("%d:%d:%d:%d", x.Id, x.State, x.At, x.Code))
		}
		return strings.Join(words, " ")
	case word == "got" && p != nil && procAt(p, n[1]) != nil:
		return "got " + procAt(p, n[1]).Got
	}
	return "no"
}

// rolledLine is of the form of a line of the table, with low numbers, so that
// many lines find what they name.
func rolledLine(d *dice) string {
	words := strings.Split(handForms[d.below(int64(len(handForms)))], " ")
	for i, word := range words {
		switch {
		case word == "TEXT" && words[0] == "frame":
			words[i] = impl.FrameText(rolledFrame(d))
		case word == "TEXT":
			words[i] = impl.ProgText(lowProg(d, int(1+d.below(4))))
		case (words[0] == "tick" || words[0] == "trace") && word == "N":
			words[i] = fmt.Sprint(d.below(12))
		case word == "P" || word == "Q":
			words[i] = fmt.Sprint(1 + d.below(3))
		case len(word) == 1:
			words[i] = fmt.Sprint(1 + d.below(4))
		}
	}
	if d.below(30) == 0 && len(words) > 1 {
		words[1+d.below(int64(len(words))-1)] = fmt.Sprint(edgeNumbers[d.below(int64(len(edgeNumbers)))])
	}
	return strings.Join(words, " ")
}

// busyHead is the beginning of many a rolled script: without it most lines
// would find nothing.
func busyHead(d *dice) []string {
	heads := [][]string{
		nil,
		{"frame 2 0:1:1 1:1:2", "part 1", "part 2", "proc 1 1 2 write 1 a;run 1;loop", "start 1 1"},
		{"frame 1 0:1:1", "part 1", "buffer 1 1 1", "board 1 1", "proc 1 1 1 send 1 -1 b;loop", "proc 1 2 1 take 1 -1;loop", "start 1 1", "start 1 2"},
		{"frame 3 0:1:1 1:1:2 2:1:1", "part 1", "part 2", "part 3", "outq 1 1 2", "inq 2 1 1", "in 3 1", "out 2 2", "chan 1 1 2 1", "proc 1 1 1 write 1 x;write 1 y z;loop", "proc 2 1 1 fetch 1;loop", "start 2 1", "start 1 1"},
	}
	return slices.Clone(heads[d.below(int64(len(heads)))])
}

// rolledLines is a script of at most most lines, mostly of the forms of the
// table.
func rolledLines(d *dice, most int64) []string {
	l := busyHead(d)
	for int64(len(l)) < most-d.below(8) {
		line := rolledLine(d)
		switch d.below(12) {
		case 0:
			line = d.garbled(line, " 0123-x;:")
		case 1:
			line = strings.Repeat(" ", int(d.below(4)))
		}
		l = append(l, line)
	}
	return l
}

func scriptOf(l []string) string {
	if len(l) == 0 {
		return ""
	}
	return strings.Join(l, "\n") + "\n"
}
