package sys_test

import (
	"fmt"
	"strings"
	"testing"

	"heapmail/api"
	"heapmail/sys"
)

// sent: a sends these to b, one after another, which stay on the way.
func sent(t *testing.T, s *sys.System, a, b int, messages ...string) {
	t.Helper()
	for _, m := range messages {
		do(t, s, fmt.Sprintf("inject %d (to #%d %s)", a, b, m), "")
		do(t, s, fmt.Sprint("run ", a), fmt.Sprintf("take %d 0 (to #%d %s); send %d %d %s", a, b, m, a, b, m))
	}
}

// ends: pid takes m, and that is how it ends, and who ends with it.
func ends(t *testing.T, s *sys.System, pid int, m, want string) {
	t.Helper()
	do(t, s, fmt.Sprintf("inject %d %s", pid, m), "")
	do(t, s, fmt.Sprint("run ", pid), fmt.Sprintf("take %d 0 %s; %s", pid, m, want))
}

// linked links these pairs, each told as 1-2.
func linked(t *testing.T, s *sys.System, pairs string) {
	t.Helper()
	for _, p := range strings.Fields(pairs) {
		a, b, _ := strings.Cut(p, "-")
		m := "(with #" + b + ")"
		do(t, s, "inject "+a+" "+m, "")
		do(t, s, "run "+a, "take "+a+" 0 "+m)
	}
}

// TestDeliverInOrder: from one to another one they come as they were sent; ways are apart.
func TestDeliverInOrder(t *testing.T) {
	s := made(t, simple, 100, "(a 0) (a 0) (a 0)")
	sent(t, s, 1, 3, "(m 1)", "(m 2)")
	sent(t, s, 2, 3, "(n 1)", "(n 2)")
	sent(t, s, 1, 3, "(m 3)")
	sent(t, s, 1, 2, "(o 1)")
	wantAll(t, s, "1: a s:; 2: a s:; 3: a 0: | 1>2 1>3 2>3")
	do(t, s, "deliver 2 3", "")
	do(t, s, "deliver 1 3", "")
	do(t, s, "deliver 1 3", "")
	do(t, s, "deliver 2 3", "")
	do(t, s, "deliver 1 3", "")
	wantAll(t, s, "1: a s:; 2: a s:; 3: a 0: (n 1) (m 1) (m 2) (n 2) (m 3) | 1>2")
	refuse(t, s, "deliver 1 3", api.ErrNone)
	refuse(t, s, "deliver 2 1", api.ErrNone)
}

// TestDeliverErrors: where nothing is on the way, and where there is no way.
func TestDeliverErrors(t *testing.T) {
	s := made(t, simple, 100, "(a 0) (a 0)")
	sent(t, s, 1, 2, "m")
	for _, n := range append(strangers(), 1, 2, 3) {
		for _, m := range append(strangers(), 1, 2, 3) {
			if n != 1 || m != 2 {
				refused(t, s, api.Happens{Kind: 2, A: n, B: m, Message: num(1)}, api.ErrNone)
			}
		}
	}
	if e := s.Do(api.Happens{Kind: 2, A: 1, B: 2, Message: api.Term{Kind: 9}}); e != api.OK {
		t.Error(e)
	}
	wantAll(t, s, "1: a s:; 2: a 0: m | ")
}

// TestDeliverToNobody: who isn't alive any more, and who never was; the message is gone.
func TestDeliverToNobody(t *testing.T) {
	s := made(t, simple, 100, "(a 0) (a 0)")
	sent(t, s, 1, 2, "(m 1)", "(m 2)")
	sent(t, s, 1, 3, "n")
	ends(t, s, 2, "stop", "end 2 1 -")
	do(t, s, "deliver 1 2", "lost 1 2 (m 1)")
	do(t, s, "deliver 1 3", "lost 1 3 n")
	wantAll(t, s, "1: a s: | 1>2")
	do(t, s, "deliver 1 2", "lost 1 2 (m 2)")
	refuse(t, s, "deliver 1 2", api.ErrNone)
	refuse(t, s, "deliver 1 3", api.ErrNone)
}

// TestInject is a message from nobody.
func TestInject(t *testing.T) {
	s := made(t, simple, 100, "(a 0) (a 0)")
	for _, m := range []string{"5", "m", "#77", "()", "(m (n) 5)"} {
		do(t, s, "inject 2 "+m, "")
	}
	wantAll(t, s, "1: a 0:; 2: a 0: 5 m #77 () (m (n) 5) | ")
}

// TestInjectErrors: who isn't alive, ahead of what the message is; nothing is lost by an error.
func TestInjectErrors(t *testing.T) {
	s := made(t, simple, 1000, "(a 0) (a 0) (a 0)")
	ends(t, s, 3, "stop", "end 3 1 -")
	for range 20 {
		do(t, s, "inject 2 m", "")
	}
	form := []api.Term{{}, {Kind: 7}, {Kind: -1}, {Kind: api.KVar}, {Kind: api.KAny}, tup(api.Term{Kind: api.KAny}), tup(num(1), tup(api.Term{Kind: api.KVar, N: 3})), {Kind: api.KAtom}, {Kind: api.KPid, N: 100}, num(1<<40 + 1), {Kind: api.KInt, Name: "a"}, tup(make([]api.Term, 9)...)}
	for _, m := range append(form, wide(), num(1), nest(13, num(1))) {
		for _, pid := range append(strangers(), 3, 4) {
			refused(t, s, api.Happens{Kind: 3, A: pid, B: 1, Message: m}, api.ErrNone)
		}
	}
	for _, pid := range []int{1, 2} {
		for _, m := range form {
			refused(t, s, api.Happens{Kind: 3, A: pid, B: 2, Message: m}, api.ErrForm)
		}
		for _, m := range []api.Term{wide(), nest(13, num(1)), nest(13, api.Term{Kind: api.KAny})} {
			refused(t, s, api.Happens{Kind: 3, A: pid, B: 2, Message: m}, api.ErrLarge)
		}
	}
}

// TestMailboxIsFull: what comes then is lost, from whomever; one that is taken makes place for one.
func TestMailboxIsFull(t *testing.T) {
	s := made(t, simple, 500, "(a 0) (a 0)")
	sent(t, s, 1, 2, "(m 1)", "(m 2)", "(m 3)")
	do(t, s, "inject 2 (be 7)", "")
	for range 18 {
		do(t, s, "inject 2 (w)", "")
	}
	do(t, s, "deliver 1 2", "")
	do(t, s, "deliver 1 2", "lost 1 2 (m 2)")
	do(t, s, "inject 2 (n (o))", "lost 0 2 (n (o))")
	wantAll(t, s, "1: a s:; 2: a 0: (be 7)"+strings.Repeat(" (w)", 18)+" (m 1) | 1>2")
	do(t, s, "run 2", "take 2 0 (be 7)")
	do(t, s, "deliver 1 2", "")
	do(t, s, "inject 2 n", "lost 0 2 n")
	wantAll(t, s, "1: a s:; 2: a 7:"+strings.Repeat(" (w)", 18)+" (m 1) (m 3) | ")
}

// TestMailboxIsFullAheadOfTheHeap: where there is no room at all, either, it is lost, and nobody ends.
func TestMailboxIsFullAheadOfTheHeap(t *testing.T) {
	s := made(t, simple, 7, "(a 0) (a (1 2 3 4 5 6))")
	sent(t, s, 1, 2, "()")
	for range 20 {
		do(t, s, "inject 2 m", "")
	}
	do(t, s, "deliver 1 2", "lost 1 2 ()")
	do(t, s, "inject 2 (1 2)", "lost 0 2 (1 2)")
	wantAlive(t, s, 1, 2)
}

// TestHeapIsFull: who has no room for what is delivered ends, and the message is gone.
func TestHeapIsFull(t *testing.T) {
	s := made(t, simple, 12, "(a 0) (a (1 2 3)) (a (1 2 3))")
	sent(t, s, 1, 2, "(1 2 3)", "(1 2 3)", "x", "()")
	do(t, s, "deliver 1 2", "")
	do(t, s, "deliver 1 2", "")
	do(t, s, "deliver 1 2", "")
	wantAll(t, s, "1: a s:; 2: a (1 2 3): (1 2 3) (1 2 3) x; 3: a (1 2 3): | 1>2")
	do(t, s, "deliver 1 2", "end 2 3 -")
	wantAll(t, s, "1: a s:; 3: a (1 2 3): | ")
	do(t, s, "inject 3 (1 2 3 4 5 6 7 8)", "end 3 3 -")
	wantAll(t, s, "1: a s: | ")
}

// TestHeapIsCollected: there is room for what is delivered as long as that which is there leaves it.
func TestHeapIsCollected(t *testing.T) {
	s := made(t, simple, 12, "(a 0)")
	for i := range 50 {
		m := fmt.Sprintf("(be (%d 2 3 4 5))", i)
		do(t, s, "inject 1 "+m, "")
		do(t, s, "run 1", "take 1 0 "+m)
		do(t, s, "inject 1 (be 1)", "")
		do(t, s, "run 1", "take 1 0 (be 1)")
	}
	wantAlive(t, s, 1)
}

// TestEndIsToldOfAll that end with it, in bond.End's order: near ones first, then rising.
func TestEndIsToldOfAll(t *testing.T) {
	eight := strings.Repeat("(a 0) ", 8)
	for _, c := range []struct{ pairs, want string }{
		{"", ""},
		{"6-7", ""},
		{"5-1 5-2", "; end 1 4 -; end 2 4 -"},
		{"1-5 5-2 2-1", "; end 1 4 -; end 2 4 -"},
		{"5-9 5-2 9-1 2-3 7-8", "; end 2 4 -; end 9 4 -; end 3 4 -; end 1 4 -"},
		{"5-11 10-5 10-1 11-2 2-3", "; end 10 4 -; end 11 4 -; end 1 4 -; end 2 4 -; end 3 4 -"},
		{"4-3 3-2 2-1 5-4", "; end 4 4 -; end 3 4 -; end 2 4 -; end 1 4 -"},
	} {
		s := made(t, simple, 9, eight)
		start(t, s, "(a 0) (a 0) (a 0)")
		linked(t, s, c.pairs)
		ends(t, s, 5, "bad", "end 5 2 -"+c.want)
		if got := len(s.Alive()); got != 10-strings.Count(c.want, ";") {
			t.Error(c.pairs, got)
		}
		s = made(t, simple, 9, eight)
		start(t, s, "(a 0) (a 0) (a 0)")
		linked(t, s, c.pairs)
		do(t, s, "inject 5 (1 2 3 4 5 6 7 (8))", "end 5 3 -"+c.want)
		s = made(t, simple, 9, eight)
		start(t, s, "(a 0) (a 0) (a 0)")
		linked(t, s, c.pairs)
		ends(t, s, 5, "stop", "end 5 1 -")
	}
}

// TestFullByItsNextStateEndsOthers, too, and by what comes from another one.
func TestFullByItsNextStateEndsOthers(t *testing.T) {
	s := made(t, simple, 8, "(a 0) (a 0) (a 0)")
	linked(t, s, "1-2")
	ends(t, s, 2, "full", "end 2 3 -; end 1 4 -")
	s = made(t, simple, 8, "(a 0) (a 0) (a 0)")
	linked(t, s, "1-2 2-3")
	sent(t, s, 3, 1, "(1 2)", "(1 2)", "(1 2)")
	do(t, s, "deliver 3 1", "")
	do(t, s, "deliver 3 1", "")
	do(t, s, "deliver 3 1", "end 1 3 -; end 2 4 -; end 3 4 -")
	wantAll(t, s, " | ")
}

// TestStopParts: those that one came to through the one that stopped aren't bound any more.
func TestStopParts(t *testing.T) {
	s := made(t, simple, 9, "(a 0) (a 0) (a 0) (a 0)")
	linked(t, s, "1-2 2-3 3-4")
	ends(t, s, 2, "stop", "end 2 1 -")
	wantAlive(t, s, 1, 3, 4)
	ends(t, s, 1, "bad", "end 1 2 -")
	wantAlive(t, s, 3, 4)
	ends(t, s, 4, "bad", "end 4 2 -; end 3 4 -")
	wantAlive(t, s)
}

// TestEndedIsNoMore: by each way in which one ends, it isn't spoken to, run, told or tidied any more.
func TestEndedIsNoMore(t *testing.T) {
	s := made(t, simple, 9, "(a 0) (a 0) (a 0) (a 0) (a 0)")
	linked(t, s, "2-1")
	do(t, s, "inject 1 stop", "")
	ends(t, s, 2, "bad", "end 2 2 -; end 1 4 -")
	ends(t, s, 3, "stop", "end 3 1 -")
	do(t, s, "inject 4 (1 2 3 4 5 6 7 (8))", "end 4 3 -")
	for pid := 1; pid <= 4; pid++ {
		s.Tidy(pid)
		refuse(t, s, fmt.Sprint("run ", pid), api.ErrNone)
		refuse(t, s, fmt.Sprint("inject ", pid, " stop"), api.ErrNone)
		if got := one(s, pid); got != fmt.Sprint(pid, ": error 4") {
			t.Error(got)
		}
		do(t, s, fmt.Sprintf("inject 5 (with #%d)", pid), "")
		do(t, s, "run 5", fmt.Sprintf("take 5 0 (with #%d)", pid))
	}
	ends(t, s, 5, "bad", "end 5 2 -")
}

// TestWhatIsOnTheWayStays, to the one that ended, and from it, whichever way it ended.
func TestWhatIsOnTheWayStays(t *testing.T) {
	for m, want := range map[string]string{"stop": "end 2 1 -", "bad": "end 2 2 -; end 3 4 -", "full": "end 2 3 -; end 3 4 -"} {
		s := made(t, simple, 8, "(a 0) (a 0) (a 0)")
		linked(t, s, "2-3")
		sent(t, s, 1, 2, "x", "y")
		sent(t, s, 2, 1, "z", "w")
		sent(t, s, 3, 1, "v")
		sent(t, s, 2, 2, "u")
		sent(t, s, 1, 3, "o")
		ends(t, s, 2, m, want)
		if got := fmt.Sprint(s.Ways()); got != "[[1 2] [1 3] [2 1] [2 2] [3 1]]" {
			t.Error(m, got)
		}
		do(t, s, "deliver 2 1", "")
		do(t, s, "deliver 3 1", "")
		do(t, s, "deliver 2 1", "")
		do(t, s, "deliver 2 2", "lost 2 2 u")
		do(t, s, "deliver 1 2", "lost 1 2 x")
		if got := one(s, 1); got != "1: a s: z v w" {
			t.Error(m, got)
		}
	}
}

// TestWhoIsNotSpokenTo, not run and not bound stays as it was.
func TestWhoIsNotSpokenTo(t *testing.T) {
	s := made(t, simple, 20, "(a (k)) (a 0) (a 0) (a 0)")
	do(t, s, "inject 1 (w)", "")
	sent(t, s, 4, 1, "x")
	was := one(s, 1)
	linked(t, s, "2-3")
	sent(t, s, 2, 3, "(be 5)")
	do(t, s, "deliver 2 3", "")
	do(t, s, "run 3", "take 3 0 (be 5)")
	ends(t, s, 3, "bad", "end 3 2 -; end 2 4 -")
	start(t, s, "(a 0)")
	ends(t, s, 5, "stop", "end 5 1 -")
	if got := one(s, 1); got != was || was != "1: a (k): (w)" {
		t.Error(got, was)
	}
	if got := one(s, 4); got != "4: a s:" {
		t.Error(got)
	}
}
