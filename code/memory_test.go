package code_test

import (
	"fmt"
	"reflect"
	"runtime"
	"strings"
	"testing"
	"unsafe"

	"heapmail/api"
	"heapmail/code"
)

// roomy tells x anew, with spare room behind each list in it, in which something stands.
func roomy(x reflect.Value) reflect.Value {
	out := reflect.New(x.Type()).Elem()
	switch x.Kind() {
	case reflect.Struct:
		for i := range x.NumField() {
			out.Field(i).Set(roomy(x.Field(i)))
		}
	case reflect.Slice:
		for i := range x.Len() {
			out = reflect.Append(out, roomy(x.Index(i)))
		}
		spare := reflect.New(x.Type().Elem()).Elem()
		mark(spare)
		out = reflect.Append(out, spare, spare).Slice(0, x.Len())
	case reflect.String:
		out.SetString(strings.Clone(x.String()))
	default:
		out.Set(x)
	}
	return out
}

// mark the numbers and the texts in x.
func mark(x reflect.Value) {
	switch x.Kind() {
	case reflect.Struct:
		for i := range x.NumField() {
			mark(x.Field(i))
		}
	case reflect.Int:
		x.SetInt(77)
	case reflect.String:
		x.SetString("mark")
	}
}

// seen tells all that is in x, the room behind its lists included.
func seen(x reflect.Value) string {
	var b strings.Builder
	switch x.Kind() {
	case reflect.Struct:
		for i := range x.NumField() {
			b.WriteString(seen(x.Field(i)) + ",")
		}
		return "{" + b.String() + "}"
	case reflect.Slice:
		for i := range x.Cap() {
			b.WriteString(seen(x.Slice(0, x.Cap()).Index(i)) + ";")
		}
		return fmt.Sprint(x.Len(), "[", b.String(), "]")
	}
	return fmt.Sprint(x.Interface())
}

// room is where something lies, from its first byte to behind its last one.
type room struct{ from, to uintptr }

// rooms tells where the lists in x lie, with their spare room, and where its names do.
func rooms(x reflect.Value) (lists, names []room) {
	switch x.Kind() {
	case reflect.Struct:
		for i := range x.NumField() {
			l, n := rooms(x.Field(i))
			lists, names = append(lists, l...), append(names, n...)
		}
	case reflect.Slice:
		lists = append(lists, room{x.Pointer(), x.Pointer() + uintptr(x.Cap())*x.Type().Elem().Size()})
		for i := range x.Len() {
			l, n := rooms(x.Index(i))
			lists, names = append(lists, l...), append(names, n...)
		}
	case reflect.String:
		at := uintptr(unsafe.Pointer(unsafe.StringData(x.String())))
		names = append(names, room{at, at + uintptr(x.Len())})
	}
	return lists, names
}

func meet(a, b room) bool { return max(a.from, b.from) < min(a.to, b.to) }

// anyMeet tells whether one of l lies where one of m does.
func anyMeet(l, m []room) bool {
	for _, a := range l {
		for _, b := range m {
			if meet(a, b) {
				return true
			}
		}
	}
	return false
}

// wantNewMemory holds P2: in is as it was seen to be, and out shares nothing with it, nor a list with another of its own.
func wantNewMemory(t *testing.T, in, out any, was string) {
	t.Helper()
	if seen(reflect.ValueOf(in)) != was {
		t.Error("what was handed in is changed")
	}
	lists, names := rooms(reflect.ValueOf(out))
	inLists, inNames := rooms(reflect.ValueOf(in))
	if len(lists) < 5 || len(names) < 5 || len(inLists) < 5 || len(inNames) < 5 {
		t.Fatal("too few for this to say much", lists, names, inLists, inNames)
	}
	if anyMeet(lists, inLists) {
		t.Error("a list shares memory with what was handed in")
	}
	if anyMeet(names, inNames) {
		t.Error("a name shares memory with what was handed in")
	}
	for i := range lists {
		if anyMeet(lists[:i], lists[i:i+1]) {
			t.Error("two lists of the answer share memory")
		}
	}
	runtime.KeepAlive(in)
	runtime.KeepAlive(out)
}

const shared = "(code (beh abc (on (a (b)) (a (b)) ((send (a (b)) (a (b))) (spawn def (a (b)) $1) (link (a (b))) (stop)) (a (b))) (on a a () a)) (beh abc (on (a (b)) (a (b)) ((stop)) (a (b)))))"

// share lays one list wherever its like stands in x.
func share(x, one api.Term) api.Term {
	if text(x) == text(one) {
		return one
	}
	for i, a := range x.Args {
		x.Args[i] = share(a, one)
	}
	return x
}

func TestFromTellsNewMemory(t *testing.T) {
	for _, in := range []api.Term{
		roomy(reflect.ValueOf(read(t, shared))).Interface().(api.Term),
		share(read(t, shared), read(t, "(a (b))")),
	} {
		was := seen(reflect.ValueOf(in))
		for range 2 {
			l, e := code.From(in)
			if e != api.OK || written(l) != shared {
				t.Fatal(written(l), e)
			}
			wantNewMemory(t, in, l, was)
			l[0].Clauses[0].Acts[0].What.Args[1].Args[0] = num(7)
			l[1].Clauses[0].Acts[0] = api.Act{}
		}
	}
}

func TestToTellsNewMemory(t *testing.T) {
	plain := wantProgram(t, shared)
	one := wantProgram(t, shared)
	c, x := &one[0].Clauses[0], read(t, "(a (b))")
	c.State, c.Message, c.Next = x, x, x
	c.Acts[0].To, c.Acts[0].What, c.Acts[1].What, c.Acts[2].To = x, x, x, x
	one[1].Clauses = []api.Clause{*c}
	for _, in := range [][]api.Behaviour{roomy(reflect.ValueOf(plain)).Interface().([]api.Behaviour), one} {
		was, want := seen(reflect.ValueOf(in)), written(in)
		for range 2 {
			x, e := code.To(in)
			if e != api.OK || text(x) != want {
				t.Fatal(text(x), e)
			}
			wantNewMemory(t, in, x, was)
			x.Args[1].Args[2].Args[1] = num(7)
		}
	}
}

// TestNothingIsChangedWhereRefused: also the room behind lists that are too long, or too short.
func TestNothingIsChangedWhereRefused(t *testing.T) {
	for _, l := range [][]api.Behaviour{program(2, 2, 9), program(2, 7, 1), program(8, 1, 0), program(3, 0, 0), program(7, 6, 8)} {
		in := roomy(reflect.ValueOf(l)).Interface().([]api.Behaviour)
		was := seen(reflect.ValueOf(in))
		if _, e := code.To(in); e == api.OK || seen(reflect.ValueOf(in)) != was {
			t.Error("changed", e)
		}
	}
	in := roomy(reflect.ValueOf(read(t, "(code (beh a (on a a ((stop) (send a)) a)))"))).Interface().(api.Term)
	was := seen(reflect.ValueOf(in))
	if _, e := code.From(in); e != api.ErrForm || seen(reflect.ValueOf(in)) != was {
		t.Error("changed", e)
	}
}
