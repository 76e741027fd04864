package tests

import (
	"reflect"
	"testing"
)

// rebuilt is v in new memory. An empty list is nil there, so that DeepEqual
// sees the document's sameness; behind the end of each list there are spare
// more things; with toCap a list goes on to the end of its room.
func rebuilt(v reflect.Value, spare int, toCap bool) reflect.Value {
	switch v.Kind() {
	case reflect.Slice:
		if toCap {
			v = v.Slice(0, v.Cap())
		}
		if v.Len() == 0 && spare == 0 {
			return reflect.Zero(v.Type())
		}
		out := reflect.MakeSlice(v.Type(), v.Len()+spare, v.Len()+spare)
		for i := range v.Len() {
			out.Index(i).Set(rebuilt(v.Index(i), spare, toCap))
		}
		for i := range spare {
			mark(out.Index(v.Len() + i))
		}
		return out.Slice(0, v.Len())
	case reflect.Struct:
		out := reflect.New(v.Type()).Elem()
		for i := range v.NumField() {
			out.Field(i).Set(rebuilt(v.Field(i), spare, toCap))
		}
		return out
	}
	return v
}

// mark fills spare room with what no call would write there.
func mark(v reflect.Value) {
	switch v.Kind() {
	case reflect.Int64:
		v.SetInt(77)
	case reflect.String:
		v.SetString("spare")
	case reflect.Bool:
		v.SetBool(true)
	case reflect.Struct:
		for i := range v.NumField() {
			mark(v.Field(i))
		}
	}
}

func copied[T any](v T) T { return rebuilt(reflect.ValueOf(v), 0, false).Interface().(T) }

func roomy[T any](v T) T { return rebuilt(reflect.ValueOf(v), 2, false).Interface().(T) }

func whole[T any](v T) T { return rebuilt(reflect.ValueOf(v), 0, true).Interface().(T) }

func same[T any](a, b T) bool { return reflect.DeepEqual(copied(a), copied(b)) }

type span struct{ from, to uintptr }

// spansOf are the pieces of memory that lists have in v, spare room and all.
func spansOf(v reflect.Value) []span {
	var l []span
	switch v.Kind() {
	case reflect.Slice:
		if v.Cap() > 0 {
			l = append(l, span{v.Pointer(), v.Pointer() + uintptr(v.Cap())*v.Type().Elem().Size()})
		}
		for i := range v.Len() {
			l = append(l, spansOf(v.Index(i))...)
		}
	case reflect.Struct:
		for i := range v.NumField() {
			l = append(l, spansOf(v.Field(i))...)
		}
	}
	return l
}

// wantNewMemory says that no two lists of the answer share memory, and none
// does with a list of what was given.
func wantNewMemory(t *testing.T, answer any, given ...any) {
	t.Helper()
	own := spansOf(reflect.ValueOf(answer))
	others := own
	for _, g := range given {
		others = append(others[:len(others):len(others)], spansOf(reflect.ValueOf(g))...)
	}
	for i, a := range own {
		for j, b := range others {
			if i != j && a.from < b.to && b.from < a.to {
				t.Fatalf("shared memory: %+v", answer)
			}
		}
	}
}

// wantUnwritten makes the call with spare room behind each list, and says
// that neither list nor room is another behind it.
func wantUnwritten[T any](t *testing.T, v T, call func(T)) {
	t.Helper()
	given := roomy(v)
	was := whole(given)
	call(given)
	if !reflect.DeepEqual(whole(given), was) {
		t.Fatalf("written into: %+v", v)
	}
}
