package proc_test

import (
	"fmt"
	"testing"

	"heapmail/api"
	"heapmail/proc"
)

// told is the text of what a step told: the message, the fate, and all that it did.
func told(x proc.Taken) string {
	s := fmt.Sprint(text(x.Message), " fate ", x.Fate)
	for _, y := range x.Sends {
		s += fmt.Sprint("; send ", y.To, " ", text(y.What))
	}
	for _, y := range x.Spawns {
		s += fmt.Sprint("; spawn ", y.Pid, " ", y.Name, " ", text(y.State))
	}
	for _, y := range x.Links {
		s += fmt.Sprint("; link ", y)
	}
	return s
}

// wantStep of p, as process 5, with 20 for the next one.
func wantStep(t *testing.T, p *proc.Proc, l []api.Behaviour, want, after string) {
	t.Helper()
	x, e := p.Step(l, 5, 20)
	if got := told(x); e != api.OK || got != want || all(p) != after {
		t.Errorf("step: %q, %q, error %d\nwanted %q, %q", got, all(p), e, want, after)
	}
}

// wantNone: p has no step to do, and stays as it was.
func wantNone(t *testing.T, p *proc.Proc, l []api.Behaviour) {
	t.Helper()
	was, used := all(p), p.Used()
	x, e := p.Step(l, 5, 20)
	if e != api.ErrNone || told(x) != told(proc.Taken{}) || all(p) != was || p.Used() != used {
		t.Errorf("step: %q, %q, error %d", told(x), all(p), e)
	}
}

// TestFirstMessageThatFits: what doesn't fit waits, and keeps its place.
func TestFirstMessageThatFits(t *testing.T) {
	l := program(t, "(beh a (on $0 (up $1) () (add $0 $1)))")
	p := made(t, "a", "2", "what (up 3) (up) (up 4) (down 5)", 100)
	wantStep(t, p, l, "(up 3) fate 0", "a: 5: what (up) (up 4) (down 5)")
	wantStep(t, p, l, "(up 4) fate 0", "a: 9: what (up) (down 5)")
	wantNone(t, p, l)
	give(t, p, "(up -9)", api.OK)
	wantStep(t, p, l, "(up -9) fate 0", "a: 0: what (up) (down 5)")
	wantNone(t, p, l)
}

// TestMessagesAheadOfClauses: the first message is taken by a late clause, though a later one fits the first clause.
func TestMessagesAheadOfClauses(t *testing.T) {
	l := program(t, "(beh a (on _ x () first) (on _ y () second) (on _ _ () third))")
	p := made(t, "a", "0", "y z x y", 10)
	wantStep(t, p, l, "y fate 0", "a: second: z x y")
	wantStep(t, p, l, "z fate 0", "a: third: x y")
	wantStep(t, p, l, "x fate 0", "a: first: y")
	wantStep(t, p, l, "y fate 0", "a: second: ")
	wantNone(t, p, l)
}

// TestFirstClauseThatFits: the same message, where several would do; the state decides, too.
func TestFirstClauseThatFits(t *testing.T) {
	l := program(t, "(beh a (on 1 x () 2) (on $0 x () 3) (on 2 x () 4) (on 3 y () 5))")
	p := made(t, "a", "1", "x x y x", 10)
	wantStep(t, p, l, "x fate 0", "a: 2: x y x")
	wantStep(t, p, l, "x fate 0", "a: 3: y x")
	wantStep(t, p, l, "y fate 0", "a: 5: x")
	wantStep(t, p, l, "x fate 0", "a: 3: ")
}

// TestFirstBehaviourOfTheName: no other one is asked, of another name or of the same.
func TestFirstBehaviourOfTheName(t *testing.T) {
	l := program(t, "(beh b (on _ x () other)) (beh a (on _ x () 1) (on _ y () 2)) (beh a (on _ x () wrong) (on _ z () wrong))")
	p := made(t, "a", "0", "z x y", 10)
	wantStep(t, p, l, "x fate 0", "a: 1: z y")
	wantStep(t, p, l, "y fate 0", "a: 2: z")
	wantNone(t, p, l)
	wantNone(t, made(t, "c", "0", "x y z", 10), l)
	wantNone(t, made(t, "aa", "0", "x y z", 10), l)
	wantStep(t, made(t, "b", "0", "y x", 10), l, "x fate 0", "b: other: y")
	wantNone(t, made(t, "a", "0", "", 10), l)
}

// TestStateBindsAheadOfMessage: the message must be what the state bound, and binds what is left.
func TestStateBindsAheadOfMessage(t *testing.T) {
	l := program(t, "(beh a (on ($0 $1) ($0 $2) ((send #1 ($0 $1 $2))) ($1 $2)))")
	p := made(t, "a", "((k) 2)", "(x 3) ((k) (v)) (2 9)", 100)
	wantStep(t, p, l, "((k) (v)) fate 0; send 1 ((k) 2 (v))", "a: (2 (v)): (x 3) (2 9)")
	wantStep(t, p, l, "(2 9) fate 0; send 1 (2 (v) 9)", "a: ((v) 9): (x 3)")
	wantNone(t, p, l)
}

// TestNothingIsLeftBound: neither by a clause whose state or message fits in part, nor by another message, nor by a step.
func TestNothingIsLeftBound(t *testing.T) {
	l := program(t, "(beh a (on ($0 y) $1 () bad) (on ($2 x) ($1 z) () bad) (on _ ($0 $1 $2) ((send #1 ($0 $1 $2))) (p x)))")
	p := made(t, "a", "(p x)", "(1 2) (3 4) (5 6 7) (8 9 10)", 100)
	wantStep(t, p, l, "(5 6 7) fate 0; send 1 (5 6 7)", "a: (p x): (1 2) (3 4) (8 9 10)")
	wantStep(t, p, l, "(8 9 10) fate 0; send 1 (8 9 10)", "a: (p x): (1 2) (3 4)")
	l = program(t, "(beh a (on _ m ((spawn b 1 $0)) $0))")
	p = made(t, "a", "0", "m m", 10)
	wantStep(t, p, l, "m fate 0; spawn 20 b 1", "a: #20: m")
	wantStep(t, p, l, "m fate 0; spawn 20 b 1", "a: #20: ")
	l = program(t, "(beh a (on _ (m $0) () 0) (on _ n () $0))")
	p = made(t, "a", "s", "(m 1) n", 10)
	wantStep(t, p, l, "(m 1) fate 0", "a: 0: n")
	wantStep(t, p, l, "n fate 2", "a: 0: ")
}

// act is a process in state (st #7), which takes (msg #8 9) and does those acts.
func act(t *testing.T, acts, next string, room int) (*proc.Proc, []api.Behaviour) {
	t.Helper()
	return made(t, "a", "(st #7)", "wait (msg #8 9) more", room), program(t, "(beh a (on (st $0) (msg $1 $2) ("+acts+") "+next+"))")
}

// TestActs: what each tells, in order, by its value.
func TestActs(t *testing.T) {
	for acts, want := range map[string]string{
		"":                        "",
		"(send #1 a)":             "; send 1 a",
		"(send #99 (a $0 $1 $2))": "; send 99 (a #7 #8 9)",
		"(send $1 (add $2 $2)) (send $0 (put (add a)))":    "; send 8 18; send 7 (add a)",
		"(send (self) (self))":                             "; send 5 #5",
		"(send (put #4) 1) (send (put #4) 1)":              "; send 4 1; send 4 1",
		"(link $0) (link $0) (link (self)) (link #99)":     "; link 7; link 7; link 5; link 99",
		"(spawn b (x $2) $3)":                              "; spawn 20 b (x 9)",
		"(spawn abcdefgh (self) $3)":                       "; spawn 20 abcdefgh #5",
		"(spawn b 1 $3) (link $3) (send $3 $3)":            "; send 20 #20; spawn 20 b 1; link 20",
		"(link $1) (send $0 1) (spawn b 2 $3) (send $1 3)": "; send 7 1; send 8 3; spawn 20 b 2; link 8",
		"(send #1 1) (send #1 2) (send #1 3) (send #1 4) (send #1 5) (send #1 6) (send #1 7) (send #1 8)": "; send 1 1; send 1 2; send 1 3; send 1 4; send 1 5; send 1 6; send 1 7; send 1 8",
	} {
		p, l := act(t, acts, "(next $0 $1 $2)", 100)
		wantStep(t, p, l, "(msg #8 9) fate 0"+want, "a: (next #7 #8 9): wait more")
	}
}

// TestSpawns: their numbers rise, and each variable is bound from then on, not ahead of it.
func TestSpawns(t *testing.T) {
	l := program(t, "(beh a (on _ m ((spawn b 0 $2) (spawn a ($2) $0) (link $2) (spawn c ($2 $0) $3) (send $0 $3) (spawn b ($2 $0 $3) $1) (link $1)) ($0 $1 $2 $3)))")
	wantStep(t, made(t, "a", "0", "m", 10), l, "m fate 0; send 21 #22; spawn 20 b 0; spawn 21 a (#20); spawn 22 c (#20 #21); spawn 23 b (#20 #21 #22); link 20; link 23", "a: (#21 #23 #20 #22): ")
	for next, want := range map[int]string{
		1:  "m fate 0; send 2 #3; spawn 1 b 0; spawn 2 a (#1); spawn 3 c (#1 #2); spawn 4 b (#1 #2 #3); link 1; link 4",
		92: "m fate 0; send 93 #94; spawn 92 b 0; spawn 93 a (#92); spawn 94 c (#92 #93); spawn 95 b (#92 #93 #94); link 92; link 95",
	} {
		if x, e := made(t, "a", "0", "m", 10).Step(l, 99, next); e != api.OK || told(x) != want {
			t.Error(next, told(x), e)
		}
	}
}

// TestStop: all else is done, behind it, too, and Next is the state.
func TestStop(t *testing.T) {
	for acts, want := range map[string]string{
		"(stop)":                             "",
		"(stop) (stop)":                      "",
		"(stop) (send #1 a)":                 "; send 1 a",
		"(link #1) (stop) (spawn b 1 $3)":    "; spawn 20 b 1; link 1",
		"(spawn b 1 $3) (send $3 $2) (stop)": "; send 20 9; spawn 20 b 1",
	} {
		p, l := act(t, acts, "(next $2)", 100)
		wantStep(t, p, l, "(msg #8 9) fate 1"+want, "a: (next 9): wait more")
	}
}

// TestBad: whatever can't be reckoned, is no process, or is bound already, wherever it stands; nothing else is told.
func TestBad(t *testing.T) {
	bad := []string{
		"(send $3 a)", "(send _ a)", "(send (add a 1) a)", "(send 8 a)", "(send b a)", "(send () a)", "(send (#1) a)", "(send $2 a)", "(send (add 1 0) a)",
		"(send #1 $3)", "(send #1 _)", "(send #1 (a (_)))", "(send #1 (add $0 1))", "(send #1 (put $0))", "(send #1 (add 1099511627776 1))",
		"(send $3 $3)", "(send 8 _)",
		"(link $3)", "(link _)", "(link 8)", "(link b)", "(link (#1))", "(link $2)",
		"(spawn b $3 $3)", "(spawn b _ $3)", "(spawn b 1 $0)", "(spawn b 1 $1)", "(spawn b 1 $2)", "(spawn b _ $0)",
		"(spawn b 1 $3) (spawn b 1 $3)", "(spawn b 1 $3) (spawn c 2 $3) (link $3)", "(send $3 a) (spawn b 1 $3)", "(spawn b $3 $3) (link $3)",
	}
	for _, s := range bad {
		for _, form := range []string{"%s", "(send #1 a) (link #2) %s", "%s (send #1 a)", "(stop) %s", "%s (stop)"} {
			p, l := act(t, fmt.Sprintf(form, s), "(next)", 100)
			wantStep(t, p, l, "(msg #8 9) fate 2", "a: (st #7): wait more")
			wantUsed(t, p, 7)
		}
	}
}

func TestBadNext(t *testing.T) {
	for _, next := range []string{"$3", "_", "(a $3)", "(add $0 1)", "(add 1099511627776 1)", "(put $0)", "(a (put (_)))"} {
		for _, acts := range []string{"", "(stop)", "(send #1 a) (link #2)", "(spawn b 1 $1)"} {
			p, l := act(t, acts, next, 100)
			wantStep(t, p, l, "(msg #8 9) fate 2", "a: (st #7): wait more")
		}
	}
	p, l := act(t, "(send #1 a) (spawn b 1 $3) (link $3) (stop)", "_", 100)
	wantStep(t, p, l, "(msg #8 9) fate 2", "a: (st #7): wait more")
}

// TestTooLargeIsBad: a value that term.Check doesn't let go, though there would be room.
func TestTooLargeIsBad(t *testing.T) {
	for _, form := range []string{"(beh a (on $0 m () X))", "(beh a (on $0 m ((send #1 X)) 0))", "(beh a (on $0 m ((spawn b X $1)) 0))"} {
		for x, fate := range map[string]int{"$0": 0, "($0)": api.EBad, "($0 $0)": api.EBad} {
			l := program(t, replaced(form, x))
			for _, state := range []api.Term{sized(200), nest(12, num(1))} {
				p, e := proc.New("a", state, 1000)
				if e != api.OK {
					t.Fatal(e)
				}
				give(t, p, "m", api.OK)
				taken, e := p.Step(l, 5, 20)
				if e != api.OK || taken.Fate != fate || len(p.Mail()) != 0 || (fate != 0 && text(p.State()) != text(state)) {
					t.Error(form, x, told(taken), e)
				}
			}
		}
	}
}
