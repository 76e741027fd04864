package tests

import (
	"go/ast"
	"go/parser"
	"go/token"
	"path/filepath"
	"reflect"
	"runtime"
	"slices"
	"strings"
	"sync"
	"testing"

	"loop.example/g00313/impl"
)

// calls are all functions of chapters 1 to 8.
var calls = []any{
	impl.FrameOk, impl.OwnerAt, impl.SupplyOf, impl.LeastSupply, impl.NextAt, impl.FrameText, impl.ReadFrame,
	impl.OpOk, impl.ProgOk, impl.ProgText, impl.ReadProg,
	impl.PartOk, impl.PartNew, impl.WithProc, impl.WithSem, impl.WithEvent, impl.WithBoard, impl.WithBuffer, impl.WithPort, impl.PartText,
	impl.ProcOf, impl.Chosen, impl.Started, impl.Stopped, impl.Woken,
	impl.Ticked, impl.TickedBy,
	impl.KernelOk, impl.PartOf, impl.Carried, impl.Stepped, impl.Ran,
	impl.FeedsInto, impl.Swapped, impl.RunnersOf,
	impl.RunScript,
}

func nameOf(call any) string {
	name := runtime.FuncForPC(reflect.ValueOf(call).Pointer()).Name()
	return name[strings.LastIndex(name, ".")+1:]
}

func TestNoCallIsLeftOut(t *testing.T) {
	files, err := filepath.Glob("../impl/*.go")
	if err != nil {
		t.Fatal(files, err)
	}
	var want []string
	for _, name := range files {
		f, err := parser.ParseFile(token.NewFileSet(), name, nil, 0)
		if err != nil {
			t.Fatal(err)
		}
		for _, d := range f.Decls {
			if x, ok := d.(*ast.FuncDecl); ok && x.Name.IsExported() && x.Recv == nil {
				want = append(want, x.Name.Name)
			}
		}
	}
	var got []string
	for _, call := range calls {
		got = append(got, nameOf(call))
	}
	slices.Sort(want)
	slices.Sort(got)
	if !slices.Equal(got, want) {
		t.Errorf("%v, want %v", got, want)
	}
}

// rolledArgument is of that type, right as often as not.
func rolledArgument(d *dice, like reflect.Type, call string) any {
	switch reflect.Zero(like).Interface().(type) {
	case int64:
		return rolledNumber(d)
	case string:
		return rolledTextFor(d, call)
	case []impl.Op:
		l := lowProg(d, int(d.below(6)))
		if len(l) > 0 && d.below(4) == 0 {
			l[0].N = rolledNumber(d)
		}
		return l
	case impl.Op:
		o := rolledOp(d)
		if d.below(3) == 0 {
			o.M = rolledNumber(d)
		}
		return o
	case impl.Frame:
		if d.below(3) == 0 {
			l := wrongFrames()
			return l[d.below(int64(len(l)))]
		}
		return rolledFrame(d)
	case impl.Sem:
		return impl.Sem{Id: 1 + d.below(9), N: d.below(4), Max: rolledNumber(d)}
	case impl.Port:
		return impl.Port{Id: 1 + d.below(9), Out: d.below(2) == 0, Queue: d.below(2) == 0, Max: d.below(4), Items: rolledItems(d, 3)}
	case impl.Part:
		return rolledPartArgument(d)
	case impl.Kernel:
		return rolledKernelArgument(d)
	}
	panic("no argument of type " + like.String())
}

func rolledNumber(d *dice) int64 {
	switch d.below(8) {
	case 0:
		return edgeNumbers[d.below(int64(len(edgeNumbers)))]
	case 1:
		return d.below(203)
	}
	return d.below(8)
}

func rolledTextFor(d *dice, call string) string {
	s := ""
	switch call {
	case "ReadFrame":
		s = impl.FrameText(rolledFrame(d))
	case "ReadProg":
		s = impl.ProgText(rolledProg(d))
	case "RunScript":
		s = scriptOf(rolledLines(d, 1+d.below(40)))
	default:
		panic("no text for " + call)
	}
	if d.below(3) == 0 {
		s = d.garbled(s, "0;: x\n-")
	}
	return s
}

func rolledPartArgument(d *dice) impl.Part {
	if d.below(9) == 0 {
		return knottedPart()
	}
	p := rolledForTicks(d)
	for range d.below(2) {
		spoil(d, &p)
	}
	return p
}

func rolledKernelArgument(d *dice) impl.Kernel {
	if d.below(9) == 0 {
		return knottedKernel()
	}
	k := rolledKernel(d)
	for range d.below(2) {
		spoilKernel(d, &k)
	}
	return k
}

// rolledArguments have spare room behind each list. Some have lists of their
// own in common.
func rolledArguments(d *dice, call any) []reflect.Value {
	var l []reflect.Value
	like := reflect.TypeOf(call)
	for i := range like.NumIn() {
		v := reflect.ValueOf(rolledArgument(d, like.In(i), nameOf(call)))
		l = append(l, rebuilt(v, 2, false))
	}
	switch nameOf(call) {
	case "Swapped":
		if k := l[0].Interface().(impl.Kernel); len(k.Parts) > 0 && d.below(3) == 0 {
			l[1] = reflect.ValueOf(k.Parts[d.below(int64(len(k.Parts)))])
		}
	case "WithProc":
		if p := l[0].Interface().(impl.Part); len(p.Procs) > 0 && d.below(3) == 0 {
			l[3] = reflect.ValueOf(p.Procs[0].Prog)
		}
	case "WithPort":
		if p := l[0].Interface().(impl.Part); len(p.Ports) > 0 && d.below(3) == 0 {
			q := p.Ports[0]
			q.Id = 9
			l[1] = reflect.ValueOf(q)
		}
	}
	return l
}

// answersOf hands out the answers of a call, empty lists as nil.
func answersOf(call any, arguments []reflect.Value) ([]reflect.Value, []any) {
	l := reflect.ValueOf(call).Call(arguments)
	var plain []any
	for _, v := range l {
		plain = append(plain, rebuilt(v, 0, false).Interface())
	}
	return l, plain
}

func interfacesOf(l ...[]reflect.Value) []any {
	var out []any
	for _, v := range slices.Concat(l...) {
		out = append(out, v.Interface())
	}
	return out
}

func wholeOf(l []reflect.Value) []any {
	var out []any
	for _, v := range l {
		out = append(out, rebuilt(v, 0, true).Interface())
	}
	return out
}

// refuses says of answers that end with a flag whether that is false.
func refuses(plain []any) bool {
	ok, isFlag := plain[len(plain)-1].(bool)
	return isFlag && !ok && len(plain) > 1
}

// wantSameAnswers makes a call three times, with another call in between.
func wantSameAnswers(t *testing.T, d *dice, call any) bool {
	t.Helper()
	arguments := rolledArguments(d, call)
	was := wholeOf(arguments)
	first, plain := answersOf(call, arguments)
	answersOf(call, rolledArguments(d, call))
	again, plainAgain := answersOf(call, arguments)
	_, third := answersOf(call, arguments)
	if !reflect.DeepEqual(plain, plainAgain) || !reflect.DeepEqual(plain, third) {
		t.Fatalf("%s of %+v: %+v, then %+v, then %+v", nameOf(call), was, plain, plainAgain, third)
	}
	if !reflect.DeepEqual(wholeOf(arguments), was) {
		t.Fatalf("%s has written into %+v", nameOf(call), was)
	}
	for i, answer := range first {
		wantNewMemory(t, answer.Interface(), interfacesOf(arguments, again, first[:i], first[i+1:])...)
	}
	if refuses(plain) && !reflect.ValueOf(plain[0]).IsZero() {
		t.Fatalf("%s of %+v is false, and all the same %+v", nameOf(call), was, plain)
	}
	return refuses(plain)
}

func TestSameArgumentsGiveTheSameAnswers(t *testing.T) {
	d := &dice{state: 91}
	for _, call := range calls {
		flagged := reflect.TypeOf(call).NumOut() > 1
		refused := 0
		for range 400 {
			if wantSameAnswers(t, d, call) {
				refused++
			}
		}
		if flagged && (refused < 10 || refused > 390) {
			t.Error("rolled too one-sidedly:", nameOf(call), refused)
		}
	}
}

// emptyOrWild are arguments that no one would give but that a call must bear.
func emptyOrWild(like reflect.Type) []any {
	switch reflect.Zero(like).Interface().(type) {
	case int64:
		var l []any
		for _, n := range edgeNumbers {
			l = append(l, n)
		}
		return l
	case string:
		return []any{"", "\x00", "\n", strings.Repeat("\xff", 5000), strings.Repeat(";", 100), strings.Repeat("9", 100), strings.Repeat(" ", 100), strings.Repeat("part 1\n", 40)}
	case []impl.Op:
		return []any{[]impl.Op(nil), []impl.Op{}, make([]impl.Op, 1), make([]impl.Op, 30), slices.Repeat(prog("loop"), 21)}
	case impl.Part:
		return []any{impl.Part{}, impl.Part{Id: 1, Next: 1, Procs: make([]impl.Proc, 9)}, impl.Part{Id: 1, Next: 1, Procs: []impl.Proc{}, Ports: make([]impl.Port, 3)}, fullPart()}
	case impl.Kernel:
		return []any{impl.Kernel{}, impl.Kernel{Frame: frame(1), Parts: make([]impl.Part, 7), Chans: make([]impl.Chan, 11)},
			impl.Kernel{Frame: frame(1), Parts: []impl.Part{fullPart()}, Chans: []impl.Chan{}}, impl.Kernel{Frame: frame(1), Chans: make([]impl.Chan, 1)}}
	case impl.Frame:
		return []any{impl.Frame{}, impl.Frame{Major: 1, Windows: make([]impl.Window, 30)}, impl.Frame{Major: 1, Windows: []impl.Window{}}}
	}
	return []any{reflect.Zero(like).Interface()}
}

// TestNoCallPanics gives each argument of a call each of its wild values, the
// others as they are rolled.
func TestNoCallPanics(t *testing.T) {
	d := &dice{state: 92}
	for _, call := range calls {
		like := reflect.TypeOf(call)
		for i := range like.NumIn() {
			for _, wild := range emptyOrWild(like.In(i)) {
				arguments := rolledArguments(d, call)
				arguments[i] = reflect.ValueOf(wild)
				was := wholeOf(arguments)
				func() {
					defer func() {
						if p := recover(); p != nil {
							t.Errorf("%s of %+v: %v", nameOf(call), was, p)
						}
					}()
					_, plain := answersOf(call, arguments)
					_, again := answersOf(call, arguments)
					if !reflect.DeepEqual(plain, again) || !reflect.DeepEqual(wholeOf(arguments), was) {
						t.Errorf("%s of %+v: %+v, then %+v", nameOf(call), was, plain, again)
					}
				}()
			}
		}
	}
}

// TestCallsAtTheSameTime has many calls at work on the same arguments.
func TestCallsAtTheSameTime(t *testing.T) {
	d := &dice{state: 93}
	for _, call := range calls {
		for range 10 {
			arguments := rolledArguments(d, call)
			_, want := answersOf(call, arguments)
			var all sync.WaitGroup
			for range 4 {
				all.Go(func() {
					if _, got := answersOf(call, arguments); !reflect.DeepEqual(got, want) {
						t.Errorf("%s of %+v: %+v, want %+v", nameOf(call), wholeOf(arguments), got, want)
					}
				})
			}
			all.Wait()
		}
	}
}
