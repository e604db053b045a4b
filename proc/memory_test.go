package proc_test

import (
	"fmt"
	"reflect"
	"runtime"
	"strings"
	"testing"
	"unsafe"

	"heapmail/api"
	"heapmail/proc"
)

// roomy tells x anew, with spare room behind each list in it, in which something stands.
func roomy[T any](x T) T { return roomyValue(reflect.ValueOf(x)).Interface().(T) }

func roomyValue(x reflect.Value) reflect.Value {
	out := reflect.New(x.Type()).Elem()
	switch x.Kind() {
	case reflect.Struct:
		for i := range x.NumField() {
			out.Field(i).Set(roomyValue(x.Field(i)))
		}
	case reflect.Slice:
		for i := range x.Len() {
			out = reflect.Append(out, roomyValue(x.Index(i)))
		}
		spare := reflect.New(x.Type().Elem()).Elem()
		mark(spare)
		out = reflect.Append(out, spare, spare).Slice(0, x.Len())
	case reflect.String:
		out.SetString(strings.Clone(x.String()))
	default:
		out.Set(x)
	}
	return out
}

// mark the numbers and the texts in x, and all that stands in its lists and behind them.
func mark(x reflect.Value) {
	switch x.Kind() {
	case reflect.Struct:
		for i := range x.NumField() {
			mark(x.Field(i))
		}
	case reflect.Slice:
		for i := range x.Cap() {
			mark(x.Slice(0, x.Cap()).Index(i))
		}
	case reflect.Int:
		x.SetInt(77)
	case reflect.String:
		x.SetString("mark")
	}
}

// spoil all lists in what x points to, with the room behind them.
func spoil(x any) { mark(reflect.ValueOf(x).Elem()) }

// seen tells all that is in x, the room behind its lists included.
func seen(x any) string { return seenValue(reflect.ValueOf(x)) }

func seenValue(x reflect.Value) string {
	var b strings.Builder
	switch x.Kind() {
	case reflect.Struct:
		for i := range x.NumField() {
			b.WriteString(seenValue(x.Field(i)) + ",")
		}
		return "{" + b.String() + "}"
	case reflect.Slice:
		for i := range x.Cap() {
			b.WriteString(seenValue(x.Slice(0, x.Cap()).Index(i)) + ";")
		}
		return fmt.Sprint(x.Len(), "[", b.String(), "]")
	}
	return fmt.Sprint(x.Interface())
}

// room is where something lies, from its first byte to behind its last one.
type room struct{ from, to uintptr }

// rooms tells where the lists in x lie, with their spare room, and where its names do.
func rooms(x reflect.Value) (lists, names []room) {
	switch x.Kind() {
	case reflect.Struct:
		for i := range x.NumField() {
			l, n := rooms(x.Field(i))
			lists, names = append(lists, l...), append(names, n...)
		}
	case reflect.Slice:
		lists = append(lists, room{x.Pointer(), x.Pointer() + uintptr(x.Cap())*x.Type().Elem().Size()})
		for i := range x.Len() {
			l, n := rooms(x.Index(i))
			lists, names = append(lists, l...), append(names, n...)
		}
	case reflect.String:
		at := uintptr(unsafe.Pointer(unsafe.StringData(x.String())))
		names = append(names, room{at, at + uintptr(x.Len())})
	}
	return lists, names
}

// wantApart: no list and no name of one lies where one of another does, nor a list where another of its own does.
func wantApart(t *testing.T, things ...any) {
	t.Helper()
	var lists, names []room
	var whose []int
	for i, x := range things {
		l, n := rooms(reflect.ValueOf(x))
		for _, a := range l {
			for k, b := range lists {
				if max(a.from, b.from) < min(a.to, b.to) {
					t.Errorf("a list of thing %d is shared (%d)", i, k)
				}
			}
			lists = append(lists, a)
		}
		for _, a := range n {
			for k, b := range names {
				if whose[k] != i && max(a.from, b.from) < min(a.to, b.to) {
					t.Errorf("a name of thing %d is one of thing %d", i, whose[k])
				}
			}
			names, whose = append(names, a), append(whose, i)
		}
	}
	if len(lists) < 10 || len(names) < 10 {
		t.Error("too few for this to say much", len(lists), len(names))
	}
	runtime.KeepAlive(things)
}

const busy = "(beh abc (on ($0 (s)) (m $1) ((send #1 ($0 $1)) (send #2 ($0 $1)) (spawn def (k $1) $2) (spawn abc (k $1) $3) (link $2) (link $3)) ($0 (s))))"

// TestAnswersAreNewMemory holds P2: all that was handed in, and all that was told, lies apart.
func TestAnswersAreNewMemory(t *testing.T) {
	l, state, message, other := program(t, busy), read(t, "((a (b)) (s))"), read(t, "(m (x (y)))"), read(t, "(w (z))")
	things := []any{l, state, message, other}
	name := strings.Clone("abc")
	p, e := proc.New(name, state, 100)
	if e != api.OK || p.Deliver(other) != api.OK || p.Deliver(message) != api.OK || p.Deliver(message) != api.OK {
		t.Fatal(e)
	}
	things = append(things, name, p.Name(), p.Name(), p.State(), p.State(), p.Mail(), p.Mail())
	for range 2 {
		x, e := p.Step(l, 5, 20)
		if e != api.OK || told(x) != "(m (x (y))) fate 0; send 1 ((a (b)) (x (y))); send 2 ((a (b)) (x (y))); spawn 20 def (k (x (y))); spawn 21 abc (k (x (y))); link 20; link 21" {
			t.Fatal(told(x), e)
		}
		things = append(things, x, p.State(), p.Mail())
	}
	wantApart(t, things...)
}

// TestHandedInIsNotChanged: nor the room behind it, by any call, whatever comes of it.
func TestHandedInIsNotChanged(t *testing.T) {
	state, message := roomy(read(t, "((a (b)) (s))")), roomy(read(t, "(m (x (y)))"))
	for _, s := range []string{busy, "(beh abc (on _ _ ((send #1 1) (stop)) (add a a)))", "(beh abc (on $0 $1 ((link #1)) (($0 $1) ($0 $1))))", "(beh abc (on _ n () 0))", "(beh d (on _ n () 0))"} {
		l := roomy(program(t, s))
		was := seen(l) + seen(state) + seen(message)
		for _, self := range []int{5, 0} {
			p, e := proc.New("abc", state, 20)
			if e != api.OK || p.Deliver(message) != api.OK || p.Deliver(message) == api.OK {
				t.Fatal(e)
			}
			p.Step(l, self, 20)
			p.Tidy()
			if seen(l)+seen(state)+seen(message) != was {
				t.Error("changed", s)
			}
		}
	}
}

// TestHandedInIsNotKept: what is changed afterwards isn't seen in the process.
func TestHandedInIsNotKept(t *testing.T) {
	l := program(t, busy)
	name := []byte("abc")
	atom := api.Term{Kind: api.KAtom, Name: unsafe.String(&name[0], len(name))}
	state, message := tup(tup(atom), read(t, "(s)")), tup(api.Term{Kind: api.KAtom, Name: "m"}, tup(atom))
	p, e := proc.New(atom.Name, state, 100)
	if e != api.OK || p.Deliver(message) != api.OK || p.Deliver(message) != api.OK {
		t.Fatal(e)
	}
	if x, e := p.Step(l, 5, 20); e != api.OK || x.Fate != 0 {
		t.Fatal(e)
	}
	copy(name, "xyz")
	spoil(&state)
	spoil(&message)
	spoil(&l)
	wantAll(t, p, "abc: ((abc) (s)): (m (abc))")
	wantStep(t, p, program(t, busy), "(m (abc)) fate 0; send 1 ((abc) (abc)); send 2 ((abc) (abc)); spawn 20 def (k (abc)); spawn 21 abc (k (abc)); link 20; link 21", "abc: ((abc) (s)): ")
}

// TestToldIsNotKept: what was told may be overwritten, the room behind it, too.
func TestToldIsNotKept(t *testing.T) {
	l := program(t, busy)
	p := made(t, "abc", "((a (b)) (s))", "(w (z)) (m (x)) (m (y))", 100)
	for range 2 {
		state, mail := p.State(), p.Mail()
		was := all(p)
		spoil(&state)
		spoil(&mail)
		wantAll(t, p, was)
		x, e := p.Step(l, 5, 20)
		if e != api.OK || x.Fate != 0 {
			t.Fatal(e)
		}
		was = all(p)
		spoil(&x)
		wantAll(t, p, was)
		p.Tidy()
		wantAll(t, p, was)
	}
	wantAll(t, p, "abc: ((a (b)) (s)): (w (z))")
}

// TestProcessesShareNothing: what one does isn't seen in another one, of the same name, state and program.
func TestProcessesShareNothing(t *testing.T) {
	l := program(t, "(beh a (on $0 (m $1) () ($1)))")
	p, q := made(t, "a", "(0)", "(m 1)", 20), made(t, "a", "(0)", "(m 2)", 20)
	wantStep(t, p, l, "(m 1) fate 0", "a: (1): ")
	wantAll(t, q, "a: (0): (m 2)")
	wantUsed(t, q, 5)
	give(t, p, "(new)", api.OK)
	wantStep(t, q, l, "(m 2) fate 0", "a: (2): ")
	wantAll(t, p, "a: (1): (new)")
}
