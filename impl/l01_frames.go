package impl

import (
	"slices"
	"strconv"
	"strings"
)

const (
	MaxMajor   = 1000
	MaxWindows = 20
	MaxParts   = 6
	MaxTime    = 1000000000
)

type Window struct {
	At   int64
	Len  int64
	Part int64
}

type Frame struct {
	Major   int64
	Windows []Window
}

// windowTable is a right frame. Its windows stand in an array, so that it is
// a value of its own and shares nothing with the slice it was made from.
type windowTable struct {
	major   int64
	count   int
	windows [MaxWindows]Window
}

// tableOf is the only way to a windowTable, so who has one needs no checks.
func tableOf(f Frame) (windowTable, bool) {
	if f.Major < 1 || f.Major > MaxMajor || len(f.Windows) > MaxWindows {
		return windowTable{}, false
	}
	table := windowTable{major: f.Major, count: len(f.Windows)}
	end := int64(0)
	for i, w := range f.Windows {
		if !windowOk(w, end, f.Major) {
			return windowTable{}, false
		}
		table.windows[i] = w
		end = w.At + w.Len
	}
	return table, true
}

// windowOk holds Len against what is left of the frame behind At: the sum of
// the two could wrap.
func windowOk(w Window, from int64, major int64) bool {
	if w.At < from || w.At > major {
		return false
	}
	return w.Len >= 1 && w.Len <= major-w.At && w.Part >= 1 && w.Part <= MaxParts
}

func (table windowTable) all(yield func(Window) bool) {
	for i := range table.count {
		if !yield(table.windows[i]) {
			return
		}
	}
}

func (table windowTable) told() Frame {
	return Frame{Major: table.major, Windows: slices.Collect(table.all)}
}

func (table windowTable) ownerAt(t int64) int64 {
	at := t % table.major
	for w := range table.all {
		if w.At <= at && at < w.At+w.Len {
			return w.Part
		}
	}
	return 0
}

// ownedBefore counts the times 0 .. t - 1 of part: the supply of a piece is
// the difference of two such counts, however many frames lie in it.
func (table windowTable) ownedBefore(part int64, t int64) int64 {
	frames, at := t/table.major, t%table.major
	owned := int64(0)
	for w := range table.all {
		if w.Part == part {
			owned += frames*w.Len + min(max(at-w.At, 0), w.Len)
		}
	}
	return owned
}

func (table windowTable) supply(part int64, from int64, to int64) int64 {
	return table.ownedBefore(part, to) - table.ownedBefore(part, from)
}

func FrameOk(f Frame) bool {
	_, ok := tableOf(f)
	return ok
}

func OwnerAt(f Frame, t int64) int64 {
	table, ok := tableOf(f)
	if !ok || t < 0 || t > MaxTime {
		return -1
	}
	return table.ownerAt(t)
}

func SupplyOf(f Frame, part int64, from int64, to int64) int64 {
	table, ok := tableOf(f)
	if !ok || from < 0 || from > MaxTime || to < from || to > MaxTime {
		return -1
	}
	return table.supply(part, from, to)
}

func LeastSupply(f Frame, part int64, n int64) int64 {
	table, ok := tableOf(f)
	if !ok || n < 0 || n > MaxTime-MaxMajor {
		return -1
	}
	least := n
	// Beginnings a frame apart supply alike, so those of one frame are all.
	for from := range table.major {
		least = min(least, table.supply(part, from, from+n))
	}
	return least
}

func NextAt(f Frame, part int64, t int64) int64 {
	table, ok := tableOf(f)
	if !ok || t < 0 || t > MaxTime-MaxMajor {
		return -1
	}
	for later := range table.major {
		if table.ownerAt(t+later) == part {
			return t + later
		}
	}
	return -1
}

func FrameText(f Frame) string {
	table, ok := tableOf(f)
	if !ok {
		return ""
	}
	text := decimal(table.major)
	for w := range table.all {
		text += " " + decimal(w.At) + ":" + decimal(w.Len) + ":" + decimal(w.Part)
	}
	return text
}

func ReadFrame(s string) (Frame, bool) {
	words := strings.Split(s, " ")
	major, ok := readDecimal(words[0])
	if !ok || len(words) > MaxWindows+1 {
		return Frame{}, false
	}
	f := Frame{Major: major}
	for _, word := range words[1:] {
		w, ok := readWindow(word)
		if !ok {
			return Frame{}, false
		}
		f.Windows = append(f.Windows, w)
	}
	if !FrameOk(f) {
		return Frame{}, false
	}
	return f, true
}

func readWindow(s string) (Window, bool) {
	words := strings.Split(s, ":")
	if len(words) != 3 {
		return Window{}, false
	}
	at, atOk := readDecimal(words[0])
	length, lengthOk := readDecimal(words[1])
	part, partOk := readDecimal(words[2])
	if !atOk || !lengthOk || !partOk {
		return Window{}, false
	}
	return Window{At: at, Len: length, Part: part}, true
}

func decimal(n int64) string {
	return strconv.FormatInt(n, 10)
}

// readDecimal writes the number anew and compares, since ParseInt alone lets
// noughts ahead, a + and -0 pass.
func readDecimal(s string) (int64, bool) {
	const tenDigits = 9999999999
	n, err := strconv.ParseInt(s, 10, 64)
	if err != nil || n < -tenDigits || n > tenDigits || decimal(n) != s {
		return 0, false
	}
	return n, true
}
