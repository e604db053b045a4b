package proc_test

import (
	"math"
	"slices"
	"testing"

	"heapmail/api"
	"heapmail/code"
	"heapmail/proc"
)

// wantRefused: the step answers that error and nothing else, and p stays as it was.
func wantRefused(t *testing.T, p *proc.Proc, l []api.Behaviour, self, next int, want api.Errno) {
	t.Helper()
	was, used := all(p), p.Used()
	x, e := p.Step(l, self, next)
	if e != want || told(x) != told(proc.Taken{}) {
		t.Error(self, next, told(x), e, "wanted", want)
	}
	wantAll(t, p, was)
	wantUsed(t, p, used)
}

func TestBoundsOfSelfAndNext(t *testing.T) {
	l := program(t, "(beh a (on _ m ((send (self) 1)) 0))")
	for _, self := range []int{1, 2, 50, 98, 99} {
		for _, next := range []int{1, 2, 50, 91, 92} {
			if x, e := made(t, "a", "0", "m", 0).Step(l, self, next); e != api.OK || x.Sends[0].To != self {
				t.Error(self, next, told(x), e)
			}
		}
	}
	p := made(t, "a", "(s)", "(w) m", 20)
	for _, n := range []int{0, -1, 100, 101, math.MinInt, math.MaxInt} {
		wantRefused(t, p, l, n, 20, api.ErrArg)
		wantRefused(t, p, l, 5, n, api.ErrArg)
		wantRefused(t, p, l, n, n, api.ErrArg)
	}
	wantRefused(t, p, l, 5, 93, api.ErrArg)
	wantRefused(t, p, l, 5, 99, api.ErrArg)
	wantStep(t, p, l, "m fate 0; send 5 1", "a: 0: (w)")
}

// ruined tells a program in which one thing is not as it must be.
func ruined(t *testing.T, ruin func(l []api.Behaviour)) []api.Behaviour {
	l := program(t, "(beh a (on _ m ((send #1 1) (spawn b 1 $0) (link #1) (stop)) 0)) (beh b (on _ m () 0))")
	ruin(l)
	return l
}

// TestNoProgram: code.To's errors, also of a behaviour, a clause and an act that wouldn't be come to.
func TestNoProgram(t *testing.T) {
	p := made(t, "a", "(s)", "(w) m", 20)
	for _, ruin := range []func(l []api.Behaviour){
		func(l []api.Behaviour) { l[1].Name = "" },
		func(l []api.Behaviour) { l[0].Name = "A" },
		func(l []api.Behaviour) { l[1].Clauses = nil },
		func(l []api.Behaviour) { l[1].Clauses = slices.Repeat(l[1].Clauses, 7) },
		func(l []api.Behaviour) { l[0].Clauses[0].Acts = slices.Repeat(l[0].Clauses[0].Acts, 3) },
		func(l []api.Behaviour) { l[0].Clauses[0].Acts[0].Kind = 0 },
		func(l []api.Behaviour) { l[0].Clauses[0].Acts[0].Kind = 5 },
		func(l []api.Behaviour) { l[0].Clauses[0].Acts[1].Var = 4 },
		func(l []api.Behaviour) { l[0].Clauses[0].Acts[1].Var = -1 },
		func(l []api.Behaviour) { l[0].Clauses[0].Acts[1].Name = "" },
		func(l []api.Behaviour) { l[0].Clauses[0].Acts[2].What = num(1) },
		func(l []api.Behaviour) { l[0].Clauses[0].Acts[3].Var = 1 },
		func(l []api.Behaviour) { l[0].Clauses[0].State = api.Term{} },
		func(l []api.Behaviour) { l[0].Clauses[0].Message = api.Term{Kind: api.KVar, N: 4} },
		func(l []api.Behaviour) { l[1].Clauses[0].Next = api.Term{Kind: api.KPid} },
		func(l []api.Behaviour) { l[0].Clauses[0].Acts[0].To = api.Term{Kind: 9} },
	} {
		wantRefused(t, p, ruined(t, ruin), 5, 20, api.ErrForm)
		wantRefused(t, p, ruined(t, ruin), 0, 0, api.ErrForm)
	}
	for _, l := range [][]api.Behaviour{nil, {}, {{}}, slices.Repeat(program(t, "(beh a (on _ m () 0))"), 8)} {
		wantRefused(t, p, l, 5, 20, api.ErrForm)
		wantRefused(t, p, l, 100, 93, api.ErrForm)
	}
	wantStep(t, p, ruined(t, func([]api.Behaviour) {}), "m fate 1; send 1 1; spawn 20 b 1; link 1", "a: 0: (w)")
}

// TestTooLargeProgram: by its size, and by its depth, which is three more than that of a Next.
func TestTooLargeProgram(t *testing.T) {
	p := made(t, "a", "(s)", "(w) m", 20)
	for _, x := range []api.Term{nest(10, num(1)), sized(200)} {
		l := ruined(t, func(l []api.Behaviour) { l[1].Clauses[0].Next = x })
		if _, e := code.To(l); e != api.ErrLarge {
			t.Fatal(e)
		}
		wantRefused(t, p, l, 5, 20, api.ErrLarge)
		wantRefused(t, p, l, 0, 93, api.ErrLarge)
	}
	l := ruined(t, func(l []api.Behaviour) { l[1].Clauses[0].Next = nest(9, num(1)) })
	wantStep(t, p, l, "m fate 1; send 1 1; spawn 20 b 1; link 1", "a: 0: (w)")
}

// TestArgIsAheadOfNone: also where there is no message at all, or no behaviour of the name.
func TestArgIsAheadOfNone(t *testing.T) {
	l := program(t, "(beh a (on _ m () 0))")
	for _, p := range []*proc.Proc{made(t, "a", "0", "", 9), made(t, "a", "0", "n (m)", 9), made(t, "b", "0", "m", 9)} {
		wantRefused(t, p, l, 0, 20, api.ErrArg)
		wantRefused(t, p, l, 5, 93, api.ErrArg)
		wantRefused(t, p, l, 5, 20, api.ErrNone)
	}
}
