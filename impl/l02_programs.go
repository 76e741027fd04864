package impl

import "strings"

const (
	OpRun     = 1
	OpSleep   = 2
	OpWait    = 3
	OpSignal  = 4
	OpSet     = 5
	OpReset   = 6
	OpAwait   = 7
	OpSend    = 8
	OpTake    = 9
	OpShow    = 10
	OpClear   = 11
	OpRead    = 12
	OpWrite   = 13
	OpFetch   = 14
	OpStart   = 15
	OpStop    = 16
	OpLoop    = 17
	MaxProg   = 20
	MaxText   = 20
	MaxNumber = 1000
)

type Op struct {
	Kind int64
	N    int64
	M    int64
	Text string
}

var opWords = [OpLoop + 1]string{
	OpRun:    "run",
	OpSleep:  "sleep",
	OpWait:   "wait",
	OpSignal: "signal",
	OpSet:    "set",
	OpReset:  "reset",
	OpAwait:  "await",
	OpSend:   "send",
	OpTake:   "take",
	OpShow:   "show",
	OpClear:  "clear",
	OpRead:   "read",
	OpWrite:  "write",
	OpFetch:  "fetch",
	OpStart:  "start",
	OpStop:   "stop",
	OpLoop:   "loop",
}

// opForm is an op with just the fields that its Kind names. Made an Op again
// it has zero in all others, which tells whether the first Op had.
type opForm interface {
	asOp() Op
}

type bareForm struct {
	kind int64
}

type numberForm struct {
	kind int64
	n    int64
}

type waitForm struct {
	kind int64
	n    int64
	m    int64
}

type sendForm struct {
	kind int64
	n    int64
	m    int64
	text string
}

type textForm struct {
	kind int64
	n    int64
	text string
}

func (b bareForm) asOp() Op { return Op{Kind: b.kind} }

func (a numberForm) asOp() Op { return Op{Kind: a.kind, N: a.n} }

func (w waitForm) asOp() Op { return Op{Kind: w.kind, N: w.n, M: w.m} }

func (s sendForm) asOp() Op { return Op{Kind: s.kind, N: s.n, M: s.m, Text: s.text} }

func (t textForm) asOp() Op { return Op{Kind: t.kind, N: t.n, Text: t.text} }

func formOf(o Op) (opForm, bool) {
	switch o.Kind {
	case OpRun, OpSleep, OpSignal, OpSet, OpReset, OpClear, OpFetch, OpStart, OpStop:
		return numberForm{kind: o.Kind, n: o.N}, true
	case OpWait, OpAwait, OpTake, OpRead:
		return waitForm{kind: o.Kind, n: o.N, m: o.M}, true
	case OpSend:
		return sendForm{kind: o.Kind, n: o.N, m: o.M, text: o.Text}, true
	case OpShow, OpWrite:
		return textForm{kind: o.Kind, n: o.N, text: o.Text}, true
	case OpLoop:
		return bareForm{kind: o.Kind}, true
	}
	return bareForm{}, false
}

func formOk(form opForm) bool {
	switch x := form.(type) {
	case bareForm:
		return true
	case numberForm:
		return isNumber(x.n)
	case waitForm:
		return isNumber(x.n) && isPatience(x.m)
	case sendForm:
		return isNumber(x.n) && isPatience(x.m) && isPlain(x.text)
	case textForm:
		return isNumber(x.n) && isPlain(x.text)
	}
	return false
}

func formText(form opForm) string {
	switch x := form.(type) {
	case bareForm:
		return opWords[x.kind]
	case numberForm:
		return opWords[x.kind] + " " + decimal(x.n)
	case waitForm:
		return opWords[x.kind] + " " + decimal(x.n) + " " + decimal(x.m)
	case sendForm:
		return opWords[x.kind] + " " + decimal(x.n) + " " + decimal(x.m) + " " + x.text
	case textForm:
		return opWords[x.kind] + " " + decimal(x.n) + " " + x.text
	}
	return ""
}

func isNumber(n int64) bool { return n >= 1 && n <= MaxNumber }

func isPatience(m int64) bool { return m >= -1 && m <= MaxNumber }

func isPlain(s string) bool {
	if len(s) > MaxText {
		return false
	}
	for i := range len(s) {
		if s[i] < 32 || s[i] > 126 || s[i] == ';' {
			return false
		}
	}
	return true
}

func OpOk(o Op) bool {
	form, ok := formOf(o)
	return ok && form.asOp() == o && formOk(form)
}

func ProgOk(l []Op) bool {
	if len(l) < 1 || len(l) > MaxProg {
		return false
	}
	for _, o := range l {
		if !OpOk(o) {
			return false
		}
	}
	return true
}

func ProgText(l []Op) string {
	if !ProgOk(l) {
		return ""
	}
	texts := make([]string, len(l))
	for i, o := range l {
		if form, ok := formOf(o); ok {
			texts[i] = formText(form)
		}
	}
	return strings.Join(texts, ";")
}

func ReadProg(s string) ([]Op, bool) {
	return readOrNone(s)
}

// readOrNone is where a reader that gave up, however deep, comes out.
func readOrNone(s string) (l []Op, ok bool) {
	defer func() {
		if recover() != nil {
			l, ok = nil, false
		}
	}()
	return mustReadProg(s), true
}

func giveUp() {
	panic("not the text of a program")
}

func mustReadProg(s string) []Op {
	texts := strings.Split(s, ";")
	if len(texts) > MaxProg {
		giveUp()
	}
	l := make([]Op, len(texts))
	for i, text := range texts {
		l[i] = mustReadOp(text)
	}
	return l
}

func mustReadOp(s string) Op {
	r := wordReader{rest: s, more: true}
	o := Op{Kind: mustReadKind(r.word())}
	form, _ := formOf(o)
	switch form.(type) {
	case numberForm:
		o.N = r.number()
	case waitForm:
		o.N = r.number()
		o.M = r.number()
	case sendForm:
		o.N = r.number()
		o.M = r.number()
		o.Text = r.text()
	case textForm:
		o.N = r.number()
		o.Text = r.text()
	}
	if r.more || !OpOk(o) {
		giveUp()
	}
	return o
}

func mustReadKind(word string) int64 {
	for kind := int64(OpRun); kind <= OpLoop; kind++ {
		if opWords[kind] == word {
			return kind
		}
	}
	giveUp()
	return 0
}

// wordReader goes through the words of an op. It keeps more beside rest, for
// an empty text behind a blank is something else than no text.
type wordReader struct {
	rest string
	more bool
}

func (r *wordReader) word() string {
	if !r.more {
		giveUp()
	}
	var word string
	word, r.rest, r.more = strings.Cut(r.rest, " ")
	return word
}

func (r *wordReader) number() int64 {
	n, ok := readDecimal(r.word())
	if !ok {
		giveUp()
	}
	return n
}

// text takes all that is left, blanks too.
func (r *wordReader) text() string {
	if !r.more {
		giveUp()
	}
	text := r.rest
	r.rest, r.more = "", false
	return text
}
