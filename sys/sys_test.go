package sys_test

import (
	"fmt"
	"math"
	"slices"
	"strings"
	"testing"

	"heapmail/api"
	"heapmail/code"
	"heapmail/sys"
	"heapmail/term"
)

func read(t *testing.T, s string) api.Term {
	t.Helper()
	x, at, e := term.Parse(s)
	if e != api.OK {
		t.Fatal(s, at, e)
	}
	return x
}

// text of a term: a dash, if it is none.
func text(x api.Term) string {
	s, e := term.Print(x)
	if e != api.OK {
		return "-"
	}
	return s
}

func num(n int) api.Term         { return api.Term{Kind: api.KInt, N: n} }
func tup(l ...api.Term) api.Term { return api.Term{Kind: api.KTuple, Args: l} }

// nest lays n tuples of one around x.
func nest(n int, x api.Term) api.Term {
	for range n {
		x = tup(x)
	}
	return x
}

// wide is a term of a size above 200 that is well formed.
func wide() api.Term {
	x := tup(make([]api.Term, 8)...)
	for i := range x.Args {
		x.Args[i] = num(1)
	}
	return tup(tup(x, x, x, x, x, x, x, x), tup(x, x, x, x, x, x, x, x), tup(x, x, x, x, x, x, x, x))
}

// program of the behaviours that s tells.
func program(t *testing.T, s string) []api.Behaviour {
	t.Helper()
	l, e := code.From(read(t, "(code "+s+")"))
	if e != api.OK {
		t.Fatal(s, e)
	}
	return l
}

// made is a system with that program, in which those stand that started tells, each as (NAME STATE).
func made(t *testing.T, behaviours string, room int, started string) *sys.System {
	t.Helper()
	s, e := sys.New(program(t, behaviours), room)
	if e != api.OK || s == nil {
		t.Fatal(behaviours, e)
	}
	start(t, s, started)
	return s
}

func start(t *testing.T, s *sys.System, started string) {
	t.Helper()
	for _, x := range read(t, "("+started+")").Args {
		if _, e := s.Start(x.Args[0].Name, x.Args[1]); e != api.OK {
			t.Fatal(text(x), e)
		}
	}
}

// events as texts, from a place on, with `; ` between.
func events(s *sys.System, from int) string {
	var out []string
	for _, v := range s.Events()[from:] {
		out = append(out, fmt.Sprintf("%s %d %d %s", v.What, v.A, v.B, text(v.Term)))
	}
	return strings.Join(out, "; ")
}

// one process, as it is told: its number, name, state, and mail.
func one(s *sys.System, pid int) string {
	name, state, mail, e := s.Proc(pid)
	if e != api.OK {
		return fmt.Sprintf("%d: error %d", pid, e)
	}
	out := fmt.Sprintf("%d: %s %s:", pid, name, text(state))
	for _, m := range mail {
		out += " " + text(m)
	}
	return out
}

// all that is told but the events: each process, then the ways.
func all(s *sys.System) string {
	var procs, ways []string
	for _, pid := range s.Alive() {
		procs = append(procs, one(s, pid))
	}
	for _, w := range s.Ways() {
		ways = append(ways, fmt.Sprintf("%d>%d", w[0], w[1]))
	}
	return strings.Join(procs, "; ") + " | " + strings.Join(ways, " ")
}

func wantAll(t *testing.T, s *sys.System, want string) {
	t.Helper()
	if got := all(s); got != want {
		t.Errorf("told is  %q\nwanted   %q", got, want)
	}
}

func wantAlive(t *testing.T, s *sys.System, want ...int) {
	t.Helper()
	if got := s.Alive(); !slices.Equal(got, want) {
		t.Errorf("alive %v, wanted %v", got, want)
	}
}

// happens reads `run A`, `deliver A B` or `inject A TERM`.
func happens(t *testing.T, line string) api.Happens {
	t.Helper()
	word, rest, _ := strings.Cut(line, " ")
	x := api.Happens{Kind: map[string]int{"run": 1, "deliver": 2, "inject": 3}[word]}
	var err error
	switch x.Kind {
	case 1:
		_, err = fmt.Sscan(rest, &x.A)
	case 2:
		_, err = fmt.Sscan(rest, &x.A, &x.B)
	case 3:
		n, message, _ := strings.Cut(rest, " ")
		_, err = fmt.Sscan(n, &x.A)
		x.Message = read(t, message)
	}
	if err != nil || x.Kind == 0 {
		t.Fatal(line, err)
	}
	return x
}

// do what line tells, of which the new events are wanted.
func do(t *testing.T, s *sys.System, line, want string) {
	t.Helper()
	had := len(s.Events())
	if e := s.Do(happens(t, line)); e != api.OK {
		t.Errorf("%s: error %d", line, e)
	}
	if got := events(s, had); got != want {
		t.Errorf("%s: %q\nwanted %q", line, got, want)
	}
}

// refused: it answers that error, and nothing is changed.
func refused(t *testing.T, s *sys.System, x api.Happens, want api.Errno) {
	t.Helper()
	was, had := all(s), events(s, 0)
	if e := s.Do(x); e != want {
		t.Errorf("%v: error %d, wanted %d", x, e, want)
	}
	if all(s) != was || events(s, 0) != had {
		t.Errorf("%v: something is changed: %s; %s", x, all(s), events(s, 0))
	}
}

func refuse(t *testing.T, s *sys.System, line string, want api.Errno) {
	t.Helper()
	refused(t, s, happens(t, line), want)
}

// startRefused: it answers that error alone, and nothing is changed.
func startRefused(t *testing.T, s *sys.System, name string, state api.Term, want api.Errno) {
	t.Helper()
	was, had := all(s), events(s, 0)
	if n, e := s.Start(name, state); e != want || n != 0 {
		t.Errorf("start %q %s: %d, error %d, wanted error %d", name, text(state), n, e, want)
	}
	if all(s) != was || events(s, 0) != had {
		t.Errorf("start %q %s: something is changed: %s; %s", name, text(state), all(s), events(s, 0))
	}
}

// strangers are numbers of no process that may be.
func strangers() []int {
	return []int{0, -1, 91, 92, 99, 100, 1 << 32, 1<<32 + 1, math.MinInt, math.MaxInt}
}

// simple does what it is told by what it takes.
const simple = `(beh a (on _ stop ((stop)) s) (on _ bad () (add a a)) (on _ full () (1 2 3 4 5 6 7 8)) (on _ (be $0) () $0) (on _ (to $0 $1) ((send $0 $1)) s) (on _ (with $0) ((link $0)) s))`

func TestNewIsEmpty(t *testing.T) {
	for _, room := range []int{0, 1, 999, 1000} {
		s := made(t, simple, room, "")
		wantAll(t, s, " | ")
		if len(s.Events()) != 0 || len(s.Alive()) != 0 || len(s.Ways()) != 0 {
			t.Error(s.Events(), s.Alive(), s.Ways())
		}
		for _, pid := range append(strangers(), 1, 2) {
			s.Tidy(pid)
			if got := one(s, pid); got != fmt.Sprint(pid, ": error 4") {
				t.Error(got)
			}
		}
		wantAll(t, s, " | ")
	}
}

func newRefused(t *testing.T, l []api.Behaviour, room int, want api.Errno) {
	t.Helper()
	if s, e := sys.New(l, room); e != want || s != nil {
		t.Errorf("New %v %d: %v, error %d, wanted %d", l, room, s, e, want)
	}
}

// TestNewErrors: code.To's, of each kind, also where the room is wrong, too; then the room's.
func TestNewErrors(t *testing.T) {
	clause := api.Clause{State: num(1), Message: num(1), Next: num(1)}
	good := api.Behaviour{Name: "a", Clauses: []api.Clause{clause}}
	with := func(acts ...api.Act) []api.Behaviour {
		c := clause
		c.Acts = acts
		return []api.Behaviour{{Name: "a", Clauses: []api.Clause{c}}}
	}
	for _, room := range []int{-1, 0, 50, 1000, 1001} {
		for _, l := range [][]api.Behaviour{
			nil, {}, slices.Repeat([]api.Behaviour{good}, 8), {{Name: "A", Clauses: good.Clauses}}, {{Clauses: good.Clauses}},
			{{Name: "a"}}, {good, {Name: "b"}}, {{Name: "a", Clauses: slices.Repeat(good.Clauses, 7)}}, {{Name: "a", Clauses: []api.Clause{{}}}},
			with(api.Act{}), with(api.Act{Kind: 5}), with(api.Act{Kind: api.AStop, Var: 1}), with(slices.Repeat([]api.Act{{Kind: api.AStop}}, 9)...),
		} {
			newRefused(t, l, room, api.ErrForm)
		}
		large := clause
		large.Next = nest(12, num(1))
		newRefused(t, []api.Behaviour{{Name: "a", Clauses: []api.Clause{large}}}, room, api.ErrLarge)
	}
	for _, room := range []int{-1, 1001, math.MinInt, math.MaxInt} {
		newRefused(t, []api.Behaviour{good}, room, api.ErrArg)
	}
}

// TestStart: from 1 on, as they come, each with its name and state.
func TestStart(t *testing.T) {
	s := made(t, "(beh a (on _ _ () 0)) (beh abcdefgh (on _ _ () 0)) (beh a (on 1 1 () 0))", 10, "")
	for i, x := range []struct{ name, state string }{{"a", "5"}, {"abcdefgh", "(a (b #3) ())"}, {"a", "(self)"}, {"a", "x"}, {"a", "#1"}} {
		if n, e := s.Start(x.name, read(t, x.state)); n != i+1 || e != api.OK {
			t.Error(n, e)
		}
		if got, want := one(s, i+1), fmt.Sprintf("%d: %s %s:", i+1, x.name, x.state); got != want {
			t.Error(got, want)
		}
	}
	wantAlive(t, s, 1, 2, 3, 4, 5)
	if got, want := events(s, 0), "spawn 0 1 5; spawn 0 2 (a (b #3) ()); spawn 0 3 (self); spawn 0 4 x; spawn 0 5 #1"; got != want {
		t.Error(got)
	}
	if len(s.Ways()) != 0 {
		t.Error(s.Ways())
	}
}

// TestStartErrors: nothing is started, and no number is used up.
func TestStartErrors(t *testing.T) {
	s := made(t, simple+" (beh b (on _ _ () 0))", 9, "(a 1)")
	for _, name := range []string{"c", "", "A", "aa", "ab", "a ", " a", "a\x00", "abcdefghi", "1", "_", "é", strings.Repeat("a", 100000)} {
		for _, state := range []api.Term{num(1), {}, wide()} {
			startRefused(t, s, name, state, api.ErrNone)
		}
	}
	for _, state := range []api.Term{{}, {Kind: 7}, {Kind: api.KVar}, {Kind: api.KAny}, tup(num(1), api.Term{Kind: api.KAny}), num(1<<40 + 1), {Kind: api.KPid, N: 100}, {Kind: api.KAtom, Name: "A"}} {
		startRefused(t, s, "b", state, api.ErrForm)
	}
	for _, state := range []api.Term{wide(), nest(13, num(1))} {
		startRefused(t, s, "b", state, api.ErrLarge)
	}
	startRefused(t, s, "b", read(t, "(1 2 3 4 5 6 7 ())"), api.ErrFull)
	if n, e := s.Start("b", read(t, "(1 2 3 4 5 6 7 8)")); n != 2 || e != api.OK {
		t.Error(n, e)
	}
	wantAll(t, s, "1: a 1:; 2: b (1 2 3 4 5 6 7 8): | ")
}

// TestRoom is each process's own: one that is full is none of the others' business.
func TestRoom(t *testing.T) {
	s := made(t, simple, 0, "(a 1) (a x) (a #3)")
	startRefused(t, s, "a", tup(), api.ErrFull)
	s = made(t, simple, 1000, "(a "+text(nest(10, num(1)))+")")
	wantAlive(t, s, 1)
	s = made(t, simple, 5, "(a (1 2 3 4)) (a (1 2 3 4)) (a (1 2 3 4))")
	do(t, s, "inject 2 ()", "end 2 3 -")
	wantAlive(t, s, 1, 3)
}

// TestTwelveAlive: then no more, whatever is asked for, until one has ended.
func TestTwelveAlive(t *testing.T) {
	s := made(t, simple, 9, strings.Repeat("(a 0) ", 8))
	start(t, s, "(a 0) (a 0) (a 0) (a 0)")
	wantAlive(t, s, 1, 2, 3, 4, 5, 6, 7, 8, 9, 10, 11, 12)
	for _, name := range []string{"a", "b", ""} {
		for _, state := range []api.Term{num(1), {}, wide()} {
			startRefused(t, s, name, state, api.ErrLarge)
		}
	}
	do(t, s, "inject 5 stop", "")
	startRefused(t, s, "a", num(1), api.ErrLarge)
	do(t, s, "run 5", "take 5 0 stop; end 5 1 -")
	if n, e := s.Start("a", num(1)); n != 13 || e != api.OK {
		t.Error(n, e)
	}
	startRefused(t, s, "a", num(1), api.ErrLarge)
	wantAlive(t, s, 1, 2, 3, 4, 6, 7, 8, 9, 10, 11, 12, 13)
}

// ever lets so many processes be in s, and end again.
func ever(t *testing.T, s *sys.System, n int) {
	t.Helper()
	for range n {
		pid, e := s.Start("a", num(1))
		if e != api.OK {
			t.Fatal(e)
		}
		do(t, s, fmt.Sprint("inject ", pid, " stop"), "")
		do(t, s, fmt.Sprint("run ", pid), fmt.Sprintf("take %d 0 stop; end %d 1 -", pid, pid))
	}
}

// TestNinetyEver: those that ended are counted, and those that are there go on.
func TestNinetyEver(t *testing.T) {
	s := made(t, simple, 9, "(a 1)")
	ever(t, s, 88)
	if n, e := s.Start("a", num(1)); n != 90 || e != api.OK {
		t.Error(n, e)
	}
	wantAlive(t, s, 1, 90)
	startRefused(t, s, "a", num(1), api.ErrLarge)
	startRefused(t, s, "b", num(1), api.ErrLarge)
	do(t, s, "inject 90 (to #1 (be 7))", "")
	do(t, s, "run 90", "take 90 0 (to #1 (be 7)); send 90 1 (be 7)")
	do(t, s, "deliver 90 1", "")
	do(t, s, "run 1", "take 1 0 (be 7)")
	wantAll(t, s, "1: a 7:; 90: a s: | ")
	do(t, s, "inject 90 stop", "")
	do(t, s, "run 90", "take 90 0 stop; end 90 1 -")
	startRefused(t, s, "a", num(1), api.ErrLarge)
	wantAlive(t, s, 1)
}

// TestProc tells of those alone that are alive.
func TestProc(t *testing.T) {
	s := made(t, simple, 20, "(a (x)) (a 2) (a 3)")
	do(t, s, "inject 1 (w 1)", "")
	do(t, s, "inject 1 w", "")
	do(t, s, "inject 3 stop", "")
	if got := one(s, 1); got != "1: a (x): (w 1) w" {
		t.Error(got)
	}
	if got := one(s, 3); got != "3: a 3: stop" {
		t.Error(got)
	}
	do(t, s, "run 3", "take 3 0 stop; end 3 1 -")
	for _, pid := range append(strangers(), 3, 4) {
		name, state, mail, e := s.Proc(pid)
		if name != "" || text(state) != "-" || state.Kind != 0 || len(mail) != 0 || e != api.ErrNone {
			t.Error(pid, name, state, mail, e)
		}
	}
}

// TestAliveIsRising, as numbers, however they came and went.
func TestAliveIsRising(t *testing.T) {
	s := made(t, simple, 9, strings.Repeat("(a 0) ", 8))
	start(t, s, "(a 0) (a 0) (a 0) (a 0)")
	for _, pid := range []int{3, 11, 1} {
		do(t, s, fmt.Sprint("inject ", pid, " stop"), "")
		do(t, s, fmt.Sprint("run ", pid), fmt.Sprintf("take %d 0 stop; end %d 1 -", pid, pid))
	}
	start(t, s, "(a 0) (a 0)")
	for range 20 {
		wantAlive(t, s, 2, 4, 5, 6, 7, 8, 9, 10, 12, 13, 14)
	}
}

// TestWays tells those that have messages, rising.
func TestWays(t *testing.T) {
	s := made(t, simple, 50, strings.Repeat("(a 0) ", 8))
	start(t, s, "(a 0) (a 0) (a 0)")
	for _, p := range [][2]int{{10, 2}, {2, 10}, {2, 9}, {1, 1}, {10, 1}, {2, 9}, {9, 99}} {
		do(t, s, fmt.Sprintf("inject %d (to #%d m)", p[0], p[1]), "")
		do(t, s, fmt.Sprint("run ", p[0]), fmt.Sprintf("take %d 0 (to #%d m); send %d %d m", p[0], p[1], p[0], p[1]))
	}
	want := [][2]int{{1, 1}, {2, 9}, {2, 10}, {9, 99}, {10, 1}, {10, 2}}
	if got := s.Ways(); !slices.Equal(got, want) {
		t.Error(got)
	}
	do(t, s, "deliver 2 9", "")
	if got := s.Ways(); !slices.Equal(got, want) {
		t.Error(got)
	}
	do(t, s, "deliver 2 9", "")
	if got := s.Ways(); !slices.Equal(got, slices.Delete(want, 1, 2)) {
		t.Error(got)
	}
}

// TestTidyIsNotSeen: of whatever number, nothing that is told changes.
func TestTidyIsNotSeen(t *testing.T) {
	s := made(t, simple, 20, "(a (x)) (a (y (z)))")
	for _, m := range []string{"(be (1 (2)))", "(w 1)", "(w (2))"} {
		do(t, s, "inject 1 "+m, "")
	}
	do(t, s, "run 1", "take 1 0 (be (1 (2)))")
	was, had := all(s), events(s, 0)
	for _, pid := range append(strangers(), 1, 2, 3, 1) {
		s.Tidy(pid)
	}
	if all(s) != was || events(s, 0) != had {
		t.Error(all(s), events(s, 0))
	}
	if was != "1: a (1 (2)): (w 1) (w (2)); 2: a (y (z)): | " {
		t.Error(was)
	}
}

// TestEventsAreAllThatWere, in order, from the first one on.
func TestEventsAreAllThatWere(t *testing.T) {
	s := made(t, simple, 9, "(a 1) (a 2)")
	do(t, s, "inject 1 (to #2 (be 3))", "")
	do(t, s, "run 1", "take 1 0 (to #2 (be 3)); send 1 2 (be 3)")
	do(t, s, "deliver 1 2", "")
	do(t, s, "run 2", "take 2 0 (be 3)")
	do(t, s, "inject 2 bad", "")
	do(t, s, "run 2", "take 2 0 bad; end 2 2 -")
	want := "spawn 0 1 1; spawn 0 2 2; take 1 0 (to #2 (be 3)); send 1 2 (be 3); take 2 0 (be 3); take 2 0 bad; end 2 2 -"
	for range 2 {
		if got := events(s, 0); got != want {
			t.Error(got)
		}
	}
	if last := s.Events()[6]; last.Term.Kind != 0 || last.Term.N != 0 || last.Term.Name != "" || len(last.Term.Args) != 0 {
		t.Error(last)
	}
}

// TestEventsFrom: those behind the first n, whatever n is.
func TestEventsFrom(t *testing.T) {
	s := made(t, simple, 9, "")
	if s.EventCount() != 0 || len(s.EventsFrom(0)) != 0 {
		t.Error(s.EventCount(), s.EventsFrom(0))
	}
	start(t, s, "(a 1) (a (2))")
	do(t, s, "inject 2 (be (3))", "")
	do(t, s, "run 2", "take 2 0 (be (3))")
	all := s.Events()
	if len(all) != 3 || s.EventCount() != 3 {
		t.Error(all, s.EventCount())
	}
	for n := -2; n < 6; n++ {
		if got, want := s.EventsFrom(n), all[min(max(n, 0), 3):]; fmt.Sprint(got) != fmt.Sprint(want) {
			t.Error(n, got, want)
		}
	}
	for _, n := range []int{math.MinInt, math.MaxInt} {
		if got := s.EventsFrom(n); (len(got) == 3) != (n < 0) || (len(got) == 0) != (n > 0) {
			t.Error(n, got)
		}
	}
}

// TestAllZero: a System that New didn't make has no program, and answers so.
func TestAllZero(t *testing.T) {
	var s sys.System
	startRefused(t, &s, "a", num(1), api.ErrNone)
	startRefused(t, &s, "", num(1), api.ErrNone)
	for kind := -1; kind < 5; kind++ {
		want := api.ErrNone
		if kind < 1 || kind > 3 {
			want = api.ErrArg
		}
		refused(t, &s, api.Happens{Kind: kind, A: 1, B: 1, Message: num(1)}, want)
	}
	s.Tidy(1)
	wantAll(t, &s, " | ")
}
