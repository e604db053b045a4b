package match_test

import (
	"math"
	"testing"

	"heapmail/api"
	"heapmail/match"
)

func wantError(t *testing.T, name string, p, x api.Term, bound []api.Term, want api.Errno) {
	t.Helper()
	l, ok, e := match.Fits(p, x, bound)
	if e != want || (e != api.OK && (len(l) != 0 || ok)) {
		t.Error(name, l, ok, e, "want", want)
	}
}

// ill are values that are no terms.
func ill() map[string]api.Term {
	return map[string]api.Term{
		"nothing": {}, "kind 7": {Kind: 7}, "kind -1": {Kind: -1}, "a number too great": num(1<<40 + 1), "the least number": num(math.MinInt),
		"an atom without a name": {Kind: api.KAtom}, "an atom of 9": {Kind: api.KAtom, Name: "abcdefghi"}, "process 0": {Kind: api.KPid}, "process 100": {Kind: api.KPid, N: 100},
		"variable 4": {Kind: api.KVar, N: 4}, "variable -1": {Kind: api.KVar, N: -1}, "any with a number": {Kind: api.KAny, N: 1}, "any with a name": {Kind: api.KAny, Name: "a"},
		"any with args": {Kind: api.KAny, Args: []api.Term{num(1)}}, "a tuple of 9": tup(make([]api.Term, 9)...), "a tuple with one in it": tup(num(1), tup(api.Term{})),
	}
}

func TestTermsThatAreNone(t *testing.T) {
	none, good := readAll(t, free), read(t, "a")
	for name, x := range ill() {
		wantError(t, name+" as p", x, good, none, api.ErrForm)
		wantError(t, name+" as t", good, x, none, api.ErrForm)
		wantError(t, name+" as t of any", none[0], x, none, api.ErrForm)
		for i := range none {
			bound := readAll(t, free)
			bound[i] = x
			wantError(t, name+" as bound", good, good, bound, api.ErrForm)
		}
	}
}

func TestTermsTooLarge(t *testing.T) {
	none, good := readAll(t, free), read(t, "a")
	for name, x := range map[string]api.Term{"deep": nest(13, num(1)), "very deep": nest(1<<16-1, num(1)), "large": wide(201, num(1))} {
		wantError(t, name+" as p", x, good, none, api.ErrLarge)
		wantError(t, name+" as t", good, x, none, api.ErrLarge)
		for i := range none {
			bound := readAll(t, free)
			bound[i] = x
			wantError(t, name+" as bound", good, good, bound, api.ErrForm)
		}
	}
}

func TestWhatMustBeClosed(t *testing.T) {
	none, good := readAll(t, free), read(t, "a")
	for _, s := range []string{"$0", "$3", "_", "(_)", "(a (b $1))"} {
		wantError(t, s+" as t", read(t, s), read(t, s), none, api.ErrForm)
		wantError(t, s+" as t of any", none[0], read(t, s), none, api.ErrForm)
		for i := range none {
			bound := readAll(t, free)
			bound[i] = read(t, s)
			want := api.ErrForm
			if s == "_" {
				want = api.OK
			}
			wantError(t, s+" as bound", good, good, bound, want)
		}
	}
}

func TestHowManyAreBound(t *testing.T) {
	good := read(t, "a")
	wantError(t, "no list", good, good, nil, api.ErrForm)
	for n, s := range []string{"", "_", "_ _", "_ _ _", free, "_ _ _ _ _", "a b c d e f g h"} {
		want := api.ErrForm
		if n == 4 {
			want = api.OK
		}
		wantError(t, s, good, good, readAll(t, s), want)
		wantError(t, s+" of what doesn't fit", good, num(1), readAll(t, s), want)
	}
	wantError(t, "very many", good, good, make([]api.Term, 1<<16), api.ErrForm)
}

// TestFirstErrorIsTold: those of p, of t, of the rest, in that order.
func TestFirstErrorIsTold(t *testing.T) {
	none, good, wrong, large, open := readAll(t, free), read(t, "a"), api.Term{}, nest(13, num(1)), read(t, "(_)")
	wantError(t, "p large, t none", large, wrong, none, api.ErrLarge)
	wantError(t, "p none, t large", wrong, large, none, api.ErrForm)
	wantError(t, "p large, bound short", large, good, nil, api.ErrLarge)
	wantError(t, "t large, bound short", good, large, nil, api.ErrLarge)
	wantError(t, "t large and open", good, nest(13, none[0]), none, api.ErrLarge)
	wantError(t, "p large, t open", large, open, none, api.ErrLarge)
	wantError(t, "t open, bound large", good, open, []api.Term{large, large, large, large}, api.ErrForm)
}
