package sys_test

import (
	"fmt"
	"reflect"
	"runtime"
	"strings"
	"testing"
	"unsafe"

	"heapmail/api"
	"heapmail/sys"
)

// roomy tells x anew, with spare room behind each list in it, in which something stands.
func roomy[T any](x T) T { return roomyValue(reflect.ValueOf(x)).Interface().(T) }

func roomyValue(x reflect.Value) reflect.Value {
	out := reflect.New(x.Type()).Elem()
	switch x.Kind() {
	case reflect.Struct:
		for i := range x.NumField() {
			out.Field(i).Set(roomyValue(x.Field(i)))
		}
	case reflect.Slice:
		for i := range x.Len() {
			out = reflect.Append(out, roomyValue(x.Index(i)))
		}
		spare := reflect.New(x.Type().Elem()).Elem()
		mark(spare)
		out = reflect.Append(out, spare, spare).Slice(0, x.Len())
	case reflect.String:
		out.SetString(strings.Clone(x.String()))
	default:
		out.Set(x)
	}
	return out
}

// mark the numbers and the texts in x, and all that stands in its lists and behind them.
func mark(x reflect.Value) {
	switch x.Kind() {
	case reflect.Struct:
		for i := range x.NumField() {
			mark(x.Field(i))
		}
	case reflect.Slice:
		for i := range x.Cap() {
			mark(x.Slice(0, x.Cap()).Index(i))
		}
	case reflect.Array:
		for i := range x.Len() {
			mark(x.Index(i))
		}
	case reflect.Int:
		x.SetInt(77)
	case reflect.String:
		x.SetString("mark")
	}
}

// spoil all lists in what x points to, with the room behind them.
func spoil(x any) { mark(reflect.ValueOf(x).Elem()) }

// seen tells all that is in x, the room behind its lists included.
func seen(x any) string { return seenValue(reflect.ValueOf(x)) }

func seenValue(x reflect.Value) string {
	var b strings.Builder
	switch x.Kind() {
	case reflect.Struct:
		for i := range x.NumField() {
			b.WriteString(seenValue(x.Field(i)) + ",")
		}
		return "{" + b.String() + "}"
	case reflect.Slice:
		for i := range x.Cap() {
			b.WriteString(seenValue(x.Slice(0, x.Cap()).Index(i)) + ";")
		}
		return fmt.Sprint(x.Len(), "[", b.String(), "]")
	}
	return fmt.Sprint(x.Interface())
}

// room is where something lies, from its first byte to behind its last one.
type room struct{ from, to uintptr }

// rooms tells where the lists in x lie, with their spare room, and where its names do. What an event is, is one of five
// constant texts: these are nobody's.
func rooms(x reflect.Value) (lists, names []room) {
	add := func(v reflect.Value) {
		l, n := rooms(v)
		lists, names = append(lists, l...), append(names, n...)
	}
	switch x.Kind() {
	case reflect.Struct:
		for i := range x.NumField() {
			if x.Type().Field(i).Name != "What" || x.Field(i).Kind() != reflect.String {
				add(x.Field(i))
			}
		}
	case reflect.Slice:
		lists = append(lists, room{x.Pointer(), x.Pointer() + uintptr(x.Cap())*x.Type().Elem().Size()})
		for i := range x.Len() {
			add(x.Index(i))
		}
	case reflect.String:
		at := uintptr(unsafe.Pointer(unsafe.StringData(x.String())))
		names = append(names, room{at, at + uintptr(x.Len())})
	}
	return lists, names
}

// wantApart: no list and no name of one lies where one of another does, nor a list where another of its own does.
func wantApart(t *testing.T, things ...any) {
	t.Helper()
	var lists, names []room
	var whose []int
	for i, x := range things {
		l, n := rooms(reflect.ValueOf(x))
		for _, a := range l {
			for k, b := range lists {
				if max(a.from, b.from) < min(a.to, b.to) {
					t.Errorf("a list of thing %d is shared (%d)", i, k)
				}
			}
			lists = append(lists, a)
		}
		for _, a := range n {
			for k, b := range names {
				if whose[k] != i && max(a.from, b.from) < min(a.to, b.to) {
					t.Errorf("a name of thing %d is one of thing %d", i, whose[k])
				}
			}
			names, whose = append(names, a), append(whose, i)
		}
	}
	if len(lists) < 50 || len(names) < 50 {
		t.Error("too few for this to say much", len(lists), len(names))
	}
	runtime.KeepAlive(things)
}

// busy does all that can be done with one message.
const busy = "(beh abc (on ($0 (s)) (m $1) ((send (self) ($0 $1)) (send #2 ($0 $1)) (spawn abc ($1 (s)) $2) (link $2)) ($0 (s))) (on _ (bad) () _))"

// told are all answers of s: two of each.
func told(t *testing.T, s *sys.System) []any {
	t.Helper()
	var out []any
	for range 2 {
		out = append(out, s.Events(), s.EventsFrom(1), s.Alive(), s.Ways())
		for _, pid := range s.Alive() {
			name, state, mail, e := s.Proc(pid)
			if e != api.OK {
				t.Fatal(pid, e)
			}
			out = append(out, name, state, mail)
		}
	}
	return out
}

// TestAnswersAreNewMemory holds P2: all that was handed in, and all that was told, lies apart.
func TestAnswersAreNewMemory(t *testing.T) {
	l, name, state, message := program(t, busy), strings.Clone("abc"), read(t, "((a (b)) (s))"), read(t, "(m (x (y)))")
	s, e := sys.New(l, 300)
	if e != api.OK {
		t.Fatal(e)
	}
	things := []any{l, name, state, message}
	for range 2 {
		if _, e := s.Start(name, state); e != api.OK {
			t.Fatal(e)
		}
	}
	for range 22 {
		if e := s.Do(api.Happens{Kind: 3, A: 1, Message: message}); e != api.OK {
			t.Fatal(e)
		}
	}
	things = append(things, told(t, s)...)
	do(t, s, "run 1", "take 1 0 (m (x (y))); spawn 1 3 ((x (y)) (s)); send 1 1 ((a (b)) (x (y))); send 1 2 ((a (b)) (x (y)))")
	things = append(things, told(t, s)...)
	do(t, s, "deliver 1 1", "")
	do(t, s, "deliver 1 2", "")
	wantApart(t, append(things, told(t, s)...)...)
}

// TestHandedInIsNotChanged: nor the room behind it, by any call, whatever comes of it.
func TestHandedInIsNotChanged(t *testing.T) {
	l, state := roomy(program(t, busy)), roomy(read(t, "((a (b)) (s))"))
	messages := roomy([]api.Term{read(t, "(m (x (y)))"), read(t, "(bad)"), read(t, "(m (_))"), wide(), read(t, "(1 2 3 4 5 6)")})
	was := seen(l) + seen(state) + seen(messages)
	for _, size := range []int{8, 12, 13, 20, 300, 1001} {
		s, e := sys.New(l, size)
		if e != api.OK {
			continue
		}
		for _, name := range []string{"abc", "abc", "x"} {
			s.Start(name, state)
		}
		for i := range 60 {
			s.Do(api.Happens{Kind: 3, A: 1 + i%4, Message: messages[i%len(messages)]})
			s.Do(api.Happens{Kind: 1 + i%2, A: 1 + i%5, B: 1 + i%3, Message: messages[0]})
			s.Tidy(i % 3)
		}
	}
	if seen(l)+seen(state)+seen(messages) != was {
		t.Error("changed")
	}
}

// TestHandedInIsNotKept: what is changed afterwards isn't seen in the system, nor does it do anything else.
func TestHandedInIsNotKept(t *testing.T) {
	letters := []byte("abc")
	name := unsafe.String(&letters[0], len(letters))
	atom := api.Term{Kind: api.KAtom, Name: name}
	l, state, message := program(t, busy), tup(tup(atom), read(t, "(s)")), tup(read(t, "m"), tup(atom))
	l[0].Name, l[0].Clauses[0].Acts[2].Name = name, name
	s, e := sys.New(l, 200)
	if e != api.OK {
		t.Fatal(e)
	}
	if _, e := s.Start(name, state); e != api.OK {
		t.Fatal(e)
	}
	for range 21 {
		if e := s.Do(api.Happens{Kind: 3, A: 1, Message: message}); e != api.OK {
			t.Fatal(e)
		}
	}
	copy(letters, "xyz")
	spoil(&l)
	spoil(&state)
	spoil(&message)
	if got := events(s, 0); got != "spawn 0 1 ((abc) (s)); lost 0 1 (m (abc))" {
		t.Error(got)
	}
	wantAll(t, s, "1: abc ((abc) (s)):"+strings.Repeat(" (m (abc))", 20)+" | ")
	do(t, s, "run 1", "take 1 0 (m (abc)); spawn 1 2 ((abc) (s)); send 1 1 ((abc) (abc)); send 1 2 ((abc) (abc))")
	startRefused(t, s, "xyz", num(1), api.ErrNone)
	startRefused(t, s, "mark", num(1), api.ErrNone)
	start(t, s, "(abc 1)")
	wantAll(t, s, "1: abc ((abc) (s)):"+strings.Repeat(" (m (abc))", 19)+"; 2: abc ((abc) (s)):; 3: abc 1: | 1>1 1>2")
}

// TestToldIsNotKept: what was told may be overwritten, the room behind it, too.
func TestToldIsNotKept(t *testing.T) {
	s := made(t, busy, 100, "(abc ((a (b)) (s))) (abc ((c) (s)))")
	for i := range 3 {
		do(t, s, "inject 1 (m (x))", "")
		do(t, s, "inject 1 (w)", "")
		if e := s.Do(happens(t, "run 1")); e != api.OK {
			t.Fatal(e)
		}
		was, had := all(s), events(s, 0)
		for range 2 {
			name, state, mail, _ := s.Proc(1)
			list, later, alive, ways := s.Events(), s.EventsFrom(2), s.Alive(), s.Ways()
			spoil(&name)
			spoil(&state)
			spoil(&mail)
			spoil(&list)
			spoil(&later)
			spoil(&alive)
			spoil(&ways)
		}
		if all(s) != was || events(s, 0) != had {
			t.Error(i, all(s), events(s, 0))
		}
	}
	wantAll(t, s, "1: abc ((a (b)) (s)): (w) (w) (w); 2: abc ((c) (s)):; 3: abc ((x) (s)):; 4: abc ((x) (s)):; 5: abc ((x) (s)): | 1>1 1>2")
}

// TestToldStays: what happens afterwards isn't seen in what was told before.
func TestToldStays(t *testing.T) {
	s := made(t, busy, 100, "(abc ((a (b)) (s))) (abc ((c) (s)))")
	do(t, s, "inject 1 (m (x))", "")
	do(t, s, "inject 1 (m (y))", "")
	l := told(t, s)
	was := seen(l)
	for _, line := range []string{"run 1", "run 1", "deliver 1 1", "deliver 1 2", "inject 1 (bad)", "run 1"} {
		if e := s.Do(happens(t, line)); e != api.OK {
			t.Fatal(line, e)
		}
	}
	start(t, s, "(abc 1)")
	if seen(l) != was {
		t.Error("a list that was told is changed")
	}
}

// TestSystemsShareNothing: what happens to one isn't seen in another, of the same program.
func TestSystemsShareNothing(t *testing.T) {
	l := program(t, simple)
	a, e := sys.New(l, 20)
	b, f := sys.New(l, 20)
	if e != api.OK || f != api.OK {
		t.Fatal(e, f)
	}
	start(t, a, "(a 1) (a 2)")
	wantAll(t, b, " | ")
	start(t, b, "(a 3) (a 4)")
	linked(t, a, "1-2")
	sent(t, a, 2, 1, "x")
	wantAll(t, b, "1: a 3:; 2: a 4: | ")
	ends(t, b, 1, "bad", "end 1 2 -")
	wantAll(t, a, "1: a s:; 2: a s: | 2>1")
	refuse(t, b, "deliver 2 1", api.ErrNone)
	if got := events(b, 0); got != "spawn 0 1 3; spawn 0 2 4; take 1 0 bad; end 1 2 -" {
		t.Error(got)
	}
}
