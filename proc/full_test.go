package proc_test

import (
	"strings"
	"testing"

	"heapmail/api"
	"heapmail/proc"
)

// replaced tells s with x for each X in it.
func replaced(s, x string) string { return strings.ReplaceAll(s, "X", x) }

// TestNextHasRoomOrNot: what was the state and the message is room for the next state, what else waits isn't.
func TestNextHasRoomOrNot(t *testing.T) {
	l := program(t, "(beh a (on _ (m $0) ((send #1 sent) (spawn b 1 $1) (link $1)) $0) (on _ go () (1 2 3 4)))")
	for room := 5; room < 12; room++ {
		p := made(t, "a", "(o)", "(w 1) go", room)
		if room >= 3+5 {
			wantStep(t, p, l, "go fate 0", "a: (1 2 3 4): (w 1)")
		} else {
			wantStep(t, p, l, "go fate 3", "a: (o): (w 1)")
		}
	}
	p := made(t, "a", "(o)", "(m (1 2 3)) (w)", 11)
	wantUsed(t, p, 11)
	wantStep(t, p, l, "(m (1 2 3)) fate 0; send 1 sent; spawn 20 b 1; link 20", "a: (1 2 3): (w)")
	wantUsed(t, p, 6)
}

// TestFull: nothing is told but the message and the fate; the state and what waits stay, and can be gone on with.
func TestFull(t *testing.T) {
	l := program(t, "(beh a (on $0 (m $1) ((send #1 a) (spawn b 1 $2) (link $2) (stop)) ($0 $1 $1 $1)) (on $0 n () ($0)) (on ($0) o () $0))")
	p := made(t, "a", "(s (t))", "(w 1) (m (x)) (v)", 15)
	wantUsed(t, p, 15)
	wantStep(t, p, l, "(m (x)) fate 3", "a: (s (t)): (w 1) (v)")
	wantUsed(t, p, 10)
	give(t, p, "n", api.OK)
	give(t, p, "o", api.OK)
	wantStep(t, p, l, "n fate 0", "a: ((s (t))): (w 1) (v) o")
	wantUsed(t, p, 12)
	wantStep(t, p, l, "o fate 0", "a: (s (t)): (w 1) (v)")
	wantUsed(t, p, 10)
	give(t, p, "(1 2 3 4)", api.OK)
	give(t, p, "()", api.ErrFull)
	wantAll(t, p, "a: (s (t)): (w 1) (v) (1 2 3 4)")
}

// TestFullIsNotSeen: with heaps of each room, tidied ahead of it or not, it ends so, or not, by what is there, not by what was.
func TestFullIsNotSeen(t *testing.T) {
	l := program(t, "(beh a (on _ e () (add a a)) (on _ (e _) () (add a a)) (on $0 go () (next (1 2) $0)))")
	for room := 8; room < 30; room++ {
		for _, tidy := range []int{0, 1} {
			p := made(t, "a", "(s)", "(e 1) (e 2)", room)
			wantStep(t, p, l, "(e 1) fate 2", "a: (s): (e 2)")
			wantStep(t, p, l, "(e 2) fate 2", "a: (s): ")
			give(t, p, "(w 1)", api.OK)
			give(t, p, "go", api.OK)
			for range tidy {
				p.Tidy()
			}
			if room >= 3+9 { // (w 1), and (next (1 2) (s))
				wantStep(t, p, l, "go fate 0", "a: (next (1 2) (s)): (w 1)")
			} else {
				wantStep(t, p, l, "go fate 3", "a: (s): (w 1)")
				wantUsed(t, p, 5)
			}
		}
	}
}

// TestGivenUpIsNotCollectedAtOnce: Used tells that a heap is collected just where it is full.
func TestGivenUpIsNotCollectedAtOnce(t *testing.T) {
	l := program(t, "(beh a (on $0 (m $1) () ($1)))")
	p := made(t, "a", "(0)", "(m 1) (m 2) (m 3)", 15)
	for i, want := range []int{13, 15, 2} {
		wantStep(t, p, l, []string{"(m 1) fate 0", "(m 2) fate 0", "(m 3) fate 0"}[i], []string{"a: (1): (m 2) (m 3)", "a: (2): (m 3)", "a: (3): "}[i])
		wantUsed(t, p, want)
	}
}

// TestFullIsBehindBad: what can't be reckoned is told of, whatever the room.
func TestFullIsBehindBad(t *testing.T) {
	for _, form := range []string{"(beh a (on _ m () (1 2 3 4 _)))", "(beh a (on _ m ((send 1 1)) (1 2 3 4)))", "(beh a (on _ m ((stop) (link _)) (1 2 3 4)))"} {
		wantStep(t, made(t, "a", "0", "m", 3), program(t, form), "m fate 2", "a: 0: ")
	}
	wantStep(t, made(t, "a", "0", "m", 3), program(t, "(beh a (on _ m ((stop)) (1 2 3 4)))"), "m fate 3", "a: 0: ")
}

// TestWhatIsToldNeedsNoRoom: only the state and the messages are in the heap.
func TestWhatIsToldNeedsNoRoom(t *testing.T) {
	l := program(t, "(beh a (on _ m ((send #1 (1 2 3)) (spawn b (1 2 3) $0)) 0))")
	p := made(t, "a", "s", "m", 0)
	wantStep(t, p, l, "m fate 0; send 1 (1 2 3); spawn 20 b (1 2 3)", "a: 0: ")
	wantUsed(t, p, 0)
}

// TestGreatest: a state takes turns with what is in a message of the greatest size, where there is room for just these two.
func TestGreatest(t *testing.T) {
	l := program(t, "(beh a (on $0 (m $1) () $1))")
	state, message := sized(197), tup(api.Term{Kind: api.KAtom, Name: "m"}, sized(197))
	p, e := proc.New("a", state, 397)
	if e != api.OK {
		t.Fatal(e)
	}
	for range 4 {
		if e := p.Deliver(message); e != api.OK || p.Used() != 397 {
			t.Fatal(e, p.Used())
		}
		give(t, p, "()", api.ErrFull)
		wantStep(t, p, l, text(message)+" fate 0", "a: "+text(state)+": ")
		wantUsed(t, p, 197)
	}
	p, e = proc.New("a", state, 396)
	if e != api.OK || p.Deliver(message) != api.ErrFull {
		t.Error(e)
	}
}
