package sys_test

import (
	"fmt"
	"math"
	"strings"
	"testing"

	"heapmail/api"
)

// TestKindIsNone: whatever else is told with it.
func TestKindIsNone(t *testing.T) {
	s := made(t, simple, 50, "(a 1) (a 2)")
	do(t, s, "inject 1 (to #2 m)", "")
	do(t, s, "run 1", "take 1 0 (to #2 m); send 1 2 m")
	do(t, s, "inject 1 stop", "")
	for _, kind := range []int{0, -1, 4, 5, 9, 1 << 32, 1<<32 + 1, math.MinInt, math.MaxInt} {
		for _, a := range []int{1, 2, 3, 0} {
			refused(t, s, api.Happens{Kind: kind, A: a, B: 2, Message: num(1)}, api.ErrArg)
			refused(t, s, api.Happens{Kind: kind, A: a, B: 2}, api.ErrArg)
		}
	}
}

// TestRunErrors: who isn't alive, and who has no message that fits.
func TestRunErrors(t *testing.T) {
	s := made(t, simple, 50, "(a 1) (a 2)")
	for _, pid := range append(strangers(), 1, 2, 3) {
		refused(t, s, api.Happens{Kind: 1, A: pid, B: 1, Message: num(1)}, api.ErrNone)
	}
	do(t, s, "inject 1 other", "")
	do(t, s, "inject 2 bad", "")
	do(t, s, "inject 2 stop", "")
	refuse(t, s, "run 1", api.ErrNone)
	do(t, s, "run 2", "take 2 0 bad; end 2 2 -")
	refuse(t, s, "run 2", api.ErrNone)
	wantAll(t, s, "1: a 1: other | ")
}

// TestRunTakes the first message that fits, of the one that is run alone.
func TestRunTakes(t *testing.T) {
	s := made(t, "(beh a (on $0 (up $1) () (add $0 $1)) (on 9 nine () (nine)))", 20, "(a 1) (a 2)")
	for _, m := range []string{"nine", "(up 3)", "(w)", "(up 5)"} {
		do(t, s, "inject 1 "+m, "")
		do(t, s, "inject 2 "+m, "")
	}
	do(t, s, "run 1", "take 1 0 (up 3)")
	wantAll(t, s, "1: a 4: nine (w) (up 5); 2: a 2: nine (up 3) (w) (up 5) | ")
	do(t, s, "run 1", "take 1 0 (up 5)")
	do(t, s, "run 1", "take 1 0 nine")
	refuse(t, s, "run 1", api.ErrNone)
	wantAll(t, s, "1: a (nine): (w); 2: a 2: nine (up 3) (w) (up 5) | ")
}

// TestRunIgnoresTheRest of what happens: neither B nor Message is looked at.
func TestRunIgnoresTheRest(t *testing.T) {
	s := made(t, simple, 20, "(a 1)")
	do(t, s, "inject 1 (be 2)", "")
	if e := s.Do(api.Happens{Kind: 1, A: 1, B: -7, Message: api.Term{Kind: 9}}); e != api.OK {
		t.Error(e)
	}
	wantAll(t, s, "1: a 2: | ")
}

// TestRunTellsInOrder: spawns, sends, the end, whichever order the acts have.
func TestRunTellsInOrder(t *testing.T) {
	s := made(t, `(beh a (on $0 go ((stop) (send #9 (self)) (spawn b (k $0) $1) (link $1) (send $1 ($0 $1)) (spawn a ($1) $2) (send $2 x) (send (self) y)) 0)) (beh b (on _ _ () 0))`, 20, "(b 0) (a st)")
	do(t, s, "inject 2 go", "")
	do(t, s, "run 2", "take 2 0 go; spawn 2 3 (k st); spawn 2 4 (#3); send 2 9 #2; send 2 3 (st #3); send 2 4 x; send 2 2 y; end 2 1 -")
	wantAll(t, s, "1: b 0:; 3: b (k st):; 4: a (#3): | 2>2 2>3 2>4 2>9")
	do(t, s, "deliver 2 3", "")
	do(t, s, "deliver 2 4", "")
	wantAll(t, s, "1: b 0:; 3: b (k st): (st #3); 4: a (#3): x | 2>2 2>9")
}

// TestNextIsBehindTheLastThatEverWas, also where that one has ended.
func TestNextIsBehindTheLastThatEverWas(t *testing.T) {
	s := made(t, simple+" (beh b (on _ go ((spawn b 1 $0) (spawn b 2 $1) (send $1 $0)) 0))", 20, "(b 0) (a 0)")
	ever(t, s, 3)
	do(t, s, "inject 1 go", "")
	do(t, s, "run 1", "take 1 0 go; spawn 1 6 1; spawn 1 7 2; send 1 7 #6")
	do(t, s, "inject 7 go", "")
	do(t, s, "run 7", "take 7 0 go; spawn 7 8 1; spawn 7 9 2; send 7 9 #8")
	start(t, s, "(a 5)")
	wantAll(t, s, "1: b 0:; 2: a 0:; 6: b 1:; 7: b 0:; 8: b 1:; 9: b 2:; 10: a 5: | 1>7 7>9")
}

// TestBadEnds: what it did beside isn't seen, but that it took the message.
func TestBadEnds(t *testing.T) {
	for _, acts := range []string{"(send #1 x) (send 5 x)", "(spawn a 1 $0) (link _)", "(link #1) (spawn a $3 $0)", "(spawn a 1 $0) (spawn a 1 $0)", "(stop) (send #1 _)"} {
		s := made(t, "(beh a (on _ go ("+acts+") 0))", 20, "(a 1) (a 2)")
		do(t, s, "inject 2 w", "")
		do(t, s, "inject 2 go", "")
		do(t, s, "run 2", "take 2 0 go; end 2 2 -")
		wantAll(t, s, "1: a 1: | ")
	}
}

// TestFullEnds: by the next state; what was done isn't seen.
func TestFullEnds(t *testing.T) {
	s := made(t, "(beh a (on $0 (m $1) ((send #1 x) (spawn a 1 $2) (link $2) (stop)) ($0 $1 $1)))", 8, "(a 1) (a (s))")
	do(t, s, "inject 2 (m (x))", "")
	do(t, s, "run 2", "take 2 0 (m (x)); end 2 3 -")
	wantAll(t, s, "1: a 1: | ")
}

// TestTwelveWithSpawns: the one that spawns is among them, even if it stops.
func TestTwelveWithSpawns(t *testing.T) {
	behaviours := "(beh a (on _ one ((send #1 m) (spawn a x $0)) 0) (on _ two ((spawn a x $0) (send #1 m) (spawn a y $1)) 0) (on _ stop ((spawn a x $0) (send #1 m) (stop)) 0) (on _ none ((send #1 m)) 0))"
	fresh := func(n int) string { return strings.Repeat("(a 0) ", n) }
	s := made(t, behaviours, 9, fresh(8))
	start(t, s, fresh(3))
	do(t, s, "inject 3 one", "")
	do(t, s, "run 3", "take 3 0 one; spawn 3 12 x; send 3 1 m")
	do(t, s, "inject 3 none", "")
	do(t, s, "run 3", "take 3 0 none; send 3 1 m")
	for i, m := range []string{"one", "two", "stop"} {
		s := made(t, behaviours, 9, fresh(8))
		start(t, s, fresh([]int{4, 3, 4}[i]))
		last := len(s.Alive())
		do(t, s, fmt.Sprint("inject ", last, " ", m), "")
		do(t, s, fmt.Sprint("run ", last), fmt.Sprintf("take %d 0 %s; end %d 2 -", last, m, last))
		if len(s.Alive()) != last-1 || len(s.Ways()) != 0 {
			t.Error(m, s.Alive(), s.Ways())
		}
	}
}

// TestNinetyWithSpawns: those that ended are counted; who doesn't spawn goes on.
func TestNinetyWithSpawns(t *testing.T) {
	behaviours := simple + " (beh b (on _ none ((send #2 m)) 0) (on _ one ((send #2 m) (spawn a x $0)) 0) (on _ two ((spawn b x $0) (spawn b y $1)) 0))"
	s := made(t, behaviours, 9, "(b 0) (b 0) (b 0)")
	ever(t, s, 85)
	do(t, s, "inject 1 one", "")
	do(t, s, "run 1", "take 1 0 one; spawn 1 89 x; send 1 2 m")
	do(t, s, "inject 2 two", "")
	do(t, s, "run 2", "take 2 0 two; end 2 2 -")
	do(t, s, "inject 1 one", "")
	do(t, s, "run 1", "take 1 0 one; spawn 1 90 x; send 1 2 m")
	do(t, s, "inject 1 none", "")
	do(t, s, "run 1", "take 1 0 none; send 1 2 m")
	do(t, s, "inject 1 one", "")
	do(t, s, "run 1", "take 1 0 one; end 1 2 -")
	wantAll(t, s, "3: b 0:; 89: a x:; 90: a x: | 1>2")
	s = made(t, behaviours, 9, "(b 0)")
	ever(t, s, 87)
	do(t, s, "inject 1 two", "")
	do(t, s, "run 1", "take 1 0 two; spawn 1 89 x; spawn 1 90 y")
}

// TestSpawnThatCannotBe: an unknown name, or a state without room, of whichever one: none of them is there.
func TestSpawnThatCannotBe(t *testing.T) {
	for _, spawns := range []string{"(spawn b 1 $0)", "(spawn a 1 $0) (spawn b 1 $1)", "(spawn b 1 $0) (spawn a 1 $1)", "(spawn aa 1 $0)",
		"(spawn a (1 2 3 4 5) $0)", "(spawn a 1 $0) (spawn a (1 (2 (3))) $1)", "(spawn a (1 (2 (3))) $0) (spawn a 1 $1)", "(stop) (spawn b 1 $0)", "(spawn b (1 2 3 4 5) $0)"} {
		s := made(t, "(beh a (on _ go ((send #1 x) "+spawns+" (link #1)) 0) (on _ bad () _))", 5, "(a 1) (a 2)")
		do(t, s, "inject 2 go", "")
		do(t, s, "run 2", "take 2 0 go; end 2 2 -")
		wantAll(t, s, "1: a 1: | ")
		start(t, s, "(a 3)")
		wantAlive(t, s, 1, 3)
		do(t, s, "inject 1 bad", "")
		do(t, s, "run 1", "take 1 0 bad; end 1 2 -")
	}
}

// TestSpawnThatCannotBeIsBad for those that end with it, though it was about to stop.
func TestSpawnThatCannotBeIsBad(t *testing.T) {
	s := made(t, "(beh a (on _ with ((link #1)) 0) (on _ go ((stop) (spawn b 1 $0)) 0))", 5, "(a 1) (a 2)")
	do(t, s, "inject 2 with", "")
	do(t, s, "run 2", "take 2 0 with")
	do(t, s, "inject 2 go", "")
	do(t, s, "run 2", "take 2 0 go; end 2 2 -; end 1 4 -")
}

// TestSpawnHasRoomOfItsOwn: just as much as any other.
func TestSpawnHasRoomOfItsOwn(t *testing.T) {
	s := made(t, "(beh a (on _ go ((spawn a (1 2 3 4) $0) (spawn a (1 (2)) $1)) (1 2 3 4)))", 5, "(a (1 2 3 4))")
	do(t, s, "inject 1 go", "")
	do(t, s, "run 1", "take 1 0 go; spawn 1 2 (1 2 3 4); spawn 1 3 (1 (2))")
	do(t, s, "inject 2 a", "")
	do(t, s, "inject 2 ()", "end 2 3 -")
	wantAlive(t, s, 1, 3)
}

// TestSendTo whomever: one that is there, that was, that will be, or that never is, and itself.
func TestSendTo(t *testing.T) {
	s := made(t, simple, 50, "(a 0) (a 0) (a 0)")
	do(t, s, "inject 3 stop", "")
	do(t, s, "run 3", "take 3 0 stop; end 3 1 -")
	for i, to := range []int{2, 3, 4, 99, 1, 2} {
		do(t, s, fmt.Sprintf("inject 1 (to #%d (m %d))", to, i), "")
		do(t, s, "run 1", fmt.Sprintf("take 1 0 (to #%d (m %d)); send 1 %d (m %d)", to, i, to, i))
	}
	wantAll(t, s, "1: a s:; 2: a 0: | 1>1 1>2 1>3 1>4 1>99")
	start(t, s, "(a 4)")
	for line, want := range map[string]string{"deliver 1 1": "", "deliver 1 2": "", "deliver 1 3": "lost 1 3 (m 1)", "deliver 1 4": "", "deliver 1 99": "lost 1 99 (m 3)"} {
		do(t, s, line, want)
	}
	wantAll(t, s, "1: a s: (m 4); 2: a 0: (m 0); 4: a 4: (m 2) | 1>2")
}

// TestWayIsFull: what is sent then is lost, and the rest of the step is done.
func TestWayIsFull(t *testing.T) {
	s := made(t, "(beh a (on $0 go ((send #2 $0) (send #3 $0) (spawn a n $1) (send #2 (b $0)) (link #2)) (add $0 1)) (on _ bad () _))", 50, "(a 1) (a 0)")
	for i := 1; i <= 12; i++ {
		first, second := "send", "send"
		if i > 10 {
			first, second = "lost", "lost"
		}
		do(t, s, "inject 1 go", "")
		do(t, s, "run 1", fmt.Sprintf("take 1 0 go; spawn 1 %d n; %s 1 2 %d; send 1 3 %d; %s 1 2 (b %d)", i+2, first, i, i, second, i))
		do(t, s, fmt.Sprint("inject ", i+2, " bad"), "")
		do(t, s, fmt.Sprint("run ", i+2), fmt.Sprintf("take %d 0 bad; end %d 2 -", i+2, i+2))
	}
	do(t, s, "deliver 1 2", "")
	do(t, s, "inject 1 go", "")
	do(t, s, "run 1", "take 1 0 go; spawn 1 15 n; send 1 2 13; send 1 3 13; lost 1 2 (b 13)")
	for i := 2; i <= 10; i++ {
		do(t, s, "deliver 1 2", "")
		do(t, s, "deliver 1 2", "")
	}
	do(t, s, "deliver 1 2", "")
	if got := one(s, 2); got != "2: a 0: 1 (b 1) 2 (b 2) 3 (b 3) 4 (b 4) 5 (b 5) 6 (b 6) 7 (b 7) 8 (b 8) 9 (b 9) 10 (b 10)" {
		t.Error(got)
	}
	do(t, s, "deliver 1 2", "lost 1 2 13")
	refuse(t, s, "deliver 1 2", api.ErrNone)
}

// TestLinks are with those that are alive just then, the new ones included, wherever they stand among the acts.
func TestLinks(t *testing.T) {
	for _, c := range []struct{ acts, want string }{
		{"(link #2)", "; end 2 4 -"},
		{"(link #2) (link #2)", "; end 2 4 -"},
		{"(link #2) (link #1)", "; end 2 4 -"},
		{"(link #3)", ""},
		{"(link #4)", ""},
		{"(link #5)", ""},
		{"(link #99)", ""},
		{"(link (self))", ""},
		{"(link #4) (spawn a 1 $0)", "; end 4 4 -"},
		{"(spawn a 1 $0) (link $0) (link #2)", "; end 2 4 -; end 4 4 -"},
		{"(spawn a 1 $0) (spawn a 1 $1) (link $1)", "; end 5 4 -"},
		{"(spawn a 1 $0) (link #5)", ""},
	} {
		s := made(t, simple+" (beh b (on _ go ("+c.acts+") 0) (on _ bad () _))", 20, "(b 0) (a 0) (a 0)")
		do(t, s, "inject 3 stop", "")
		do(t, s, "run 3", "take 3 0 stop; end 3 1 -")
		do(t, s, "inject 1 go", "")
		if e := s.Do(happens(t, "run 1")); e != api.OK {
			t.Error(e)
		}
		start(t, s, "(a 0) (a 0)") // whoever comes later isn't linked by what was asked for before
		do(t, s, "inject 1 bad", "")
		do(t, s, "run 1", "take 1 0 bad; end 1 2 -"+c.want)
	}
}

// TestStopIsBehindLinks: it ends alone, and those that it was linked with are in no pair with it.
func TestStopIsBehindLinks(t *testing.T) {
	s := made(t, simple+" (beh b (on _ go ((stop) (link #1) (spawn a 1 $0) (link $0)) 0))", 20, "(a 0) (b 0)")
	do(t, s, "inject 2 go", "")
	do(t, s, "run 2", "take 2 0 go; spawn 2 3 1; end 2 1 -")
	do(t, s, "inject 1 bad", "")
	do(t, s, "run 1", "take 1 0 bad; end 1 2 -")
	wantAlive(t, s, 3)
}
