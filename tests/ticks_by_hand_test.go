package tests

import (
	"cmp"
	"slices"

	"loop.example/g00313/impl"
)

// handTick is a tick as chapter 5 has it, sentence by sentence, on a copy of
// a right partition that stays a Part throughout.
type handTick struct {
	p   *impl.Part
	x   *impl.Proc
	o   impl.Op
	now int64
}

// at is the thing with that Id, or nil.
func at[T any](l []T, id int64, idOf func(T) int64) *T {
	for i := range l {
		if idOf(l[i]) == id {
			return &l[i]
		}
	}
	return nil
}

func procAt(p *impl.Part, id int64) *impl.Proc {
	return at(p.Procs, id, func(x impl.Proc) int64 { return x.Id })
}

func (h handTick) sem() *impl.Sem {
	return at(h.p.Sems, h.o.N, func(x impl.Sem) int64 { return x.Id })
}

func (h handTick) event() *impl.Event {
	return at(h.p.Events, h.o.N, func(x impl.Event) int64 { return x.Id })
}

func (h handTick) board() *impl.Board {
	return at(h.p.Boards, h.o.N, func(x impl.Board) int64 { return x.Id })
}

func (h handTick) buffer() *impl.Buffer {
	return at(h.p.Buffers, h.o.N, func(x impl.Buffer) int64 { return x.Id })
}

func (h handTick) port(out bool) *impl.Port {
	q := at(h.p.Ports, h.o.N, func(x impl.Port) int64 { return x.Id })
	if q == nil || q.Out != out {
		return nil
	}
	return q
}

func bestFirst(l []*impl.Proc) []*impl.Proc {
	slices.SortFunc(l, func(a, b *impl.Proc) int {
		return cmp.Or(cmp.Compare(b.Prio, a.Prio), cmp.Compare(a.Since, b.Since))
	})
	return l
}

func (h handTick) waiting(state int64) []*impl.Proc {
	var l []*impl.Proc
	for i := range h.p.Procs {
		if y := &h.p.Procs[i]; y.State == state && y.On == h.o.N {
			l = append(l, y)
		}
	}
	return bestFirst(l)
}

func (h handTick) comesLast(y *impl.Proc) {
	y.Since = h.p.Next
	h.p.Next++
}

func pastByHand(y *impl.Proc, code int64) {
	since, place := y.Since, y.At+1
	*y = dormant(*y)
	y.Code = code
	if place < int64(len(y.Prog)) {
		y.State, y.At, y.Since = impl.PsReady, place, since
	}
}

func (h handTick) woken(y *impl.Proc) {
	pastByHand(y, impl.RcDone)
	if y.State == impl.PsReady {
		h.comesLast(y)
	}
}

func (h handTick) blocked(state int64) {
	if h.o.M == 0 {
		pastByHand(h.x, impl.RcNot)
		return
	}
	h.x.State, h.x.On, h.x.Held, h.x.Wake = state, h.o.N, h.o.Text, h.now+h.o.M
	if h.o.M == -1 {
		h.x.Wake = -1
	}
	h.comesLast(h.x)
}

func (h handTick) done() { pastByHand(h.x, impl.RcDone) }

func (h handTick) not() { pastByHand(h.x, impl.RcNot) }

func (h handTick) none() { pastByHand(h.x, impl.RcNone) }

// tickedByHand is Ticked of a right partition, where Woken is not false.
func tickedByHand(p impl.Part, now int64) impl.Part {
	p = wokenByHand(p, now)
	var ready []*impl.Proc
	for i := range p.Procs {
		if p.Procs[i].State == impl.PsReady {
			ready = append(ready, &p.Procs[i])
		}
	}
	if len(ready) == 0 {
		return p
	}
	x := bestFirst(ready)[0]
	h := handTick{&p, x, x.Prog[x.At], now}
	switch h.o.Kind {
	case impl.OpRun, impl.OpSleep, impl.OpStart, impl.OpStop, impl.OpLoop:
		h.onProcesses()
	case impl.OpWait, impl.OpSignal:
		h.onSem()
	case impl.OpSet, impl.OpReset, impl.OpAwait:
		h.onEvent()
	case impl.OpSend, impl.OpTake:
		h.onBuffer()
	case impl.OpShow, impl.OpClear, impl.OpRead:
		h.onBoard()
	default:
		h.onPort()
	}
	return p
}

func (h handTick) onProcesses() {
	y := procAt(h.p, h.o.N)
	switch {
	case h.o.Kind == impl.OpLoop:
		h.x.At = 0
	case h.o.Kind == impl.OpRun && (h.x.Left == 1 || h.o.N == 1):
		h.done()
	case h.o.Kind == impl.OpRun && h.x.Left == 0:
		h.x.Left = h.o.N - 1
	case h.o.Kind == impl.OpRun:
		h.x.Left--
	case h.o.Kind == impl.OpSleep:
		h.x.State, h.x.Wake = impl.PsSleep, h.now+h.o.N
		h.comesLast(h.x)
	case y == nil:
		h.none()
	case (h.o.Kind == impl.OpStart) != (y.State == impl.PsDormant):
		h.not()
	case h.o.Kind == impl.OpStart:
		y.State = impl.PsReady
		h.comesLast(y)
		h.done()
	case y == h.x:
		*y = dormant(*y)
	default:
		*y = dormant(*y)
		h.done()
	}
}

func (h handTick) onSem() {
	s, l := h.sem(), h.waiting(impl.PsSem)
	switch {
	case s == nil:
		h.none()
	case h.o.Kind == impl.OpWait && s.N > 0:
		s.N--
		h.done()
	case h.o.Kind == impl.OpWait:
		h.blocked(impl.PsSem)
	case len(l) > 0:
		h.woken(l[0])
		h.done()
	case s.N == s.Max:
		h.not()
	default:
		s.N++
		h.done()
	}
}

func (h handTick) onEvent() {
	e := h.event()
	switch {
	case e == nil:
		h.none()
	case h.o.Kind == impl.OpAwait && !e.Up:
		h.blocked(impl.PsEvent)
	case h.o.Kind == impl.OpAwait:
		h.done()
	default:
		e.Up = h.o.Kind == impl.OpSet
		if e.Up {
			for _, y := range h.waiting(impl.PsEvent) {
				h.woken(y)
			}
		}
		h.done()
	}
}

func (h handTick) onBuffer() {
	b, takers, senders := h.buffer(), h.waiting(impl.PsTake), h.waiting(impl.PsSend)
	switch {
	case b == nil:
		h.none()
	case h.o.Kind == impl.OpSend && len(takers) > 0:
		takers[0].Got = h.o.Text
		h.woken(takers[0])
		h.done()
	case h.o.Kind == impl.OpSend && int64(len(b.Items)) == b.Max:
		h.blocked(impl.PsSend)
	case h.o.Kind == impl.OpSend:
		b.Items = append(b.Items, h.o.Text)
		h.done()
	case len(b.Items) == 0:
		h.x.Got = ""
		h.blocked(impl.PsTake)
	default:
		h.x.Got, b.Items = b.Items[0], b.Items[1:]
		if len(senders) > 0 {
			b.Items = append(b.Items, senders[0].Held)
			h.woken(senders[0])
		}
		h.done()
	}
}

func (h handTick) onBoard() {
	b := h.board()
	switch {
	case b == nil:
		h.none()
	case h.o.Kind == impl.OpShow:
		*b = impl.Board{Id: b.Id, Shown: true, Text: h.o.Text}
		for _, y := range h.waiting(impl.PsRead) {
			y.Got = h.o.Text
			h.woken(y)
		}
		h.done()
	case h.o.Kind == impl.OpClear:
		*b = impl.Board{Id: b.Id}
		h.done()
	case b.Shown:
		h.x.Got = b.Text
		h.done()
	default:
		h.x.Got = ""
		h.blocked(impl.PsRead)
	}
}

func (h handTick) onPort() {
	q := h.port(h.o.Kind == impl.OpWrite)
	switch {
	case q == nil:
		h.none()
	case h.o.Kind == impl.OpWrite && !q.Queue:
		q.Items = []string{h.o.Text}
		h.done()
	case h.o.Kind == impl.OpWrite && int64(len(q.Items)) == q.Max:
		h.not()
	case h.o.Kind == impl.OpWrite:
		q.Items = append(q.Items, h.o.Text)
		h.done()
	case len(q.Items) == 0:
		h.x.Got = ""
		h.not()
	default:
		h.x.Got = q.Items[0]
		if q.Queue {
			q.Items = q.Items[1:]
		}
		h.done()
	}
}
