package reckon_test

import (
	"math"
	"reflect"
	"testing"

	"heapmail/api"
	"heapmail/reckon"
	"heapmail/term"
)

func wantError(t *testing.T, name string, x api.Term, bound []api.Term, self int, want api.Errno) {
	t.Helper()
	v, e := reckon.Value(x, bound, self)
	if e != want || (e != api.OK && !reflect.DeepEqual(v, api.Term{})) {
		t.Error(name, v, e, "want", want)
	}
}

// ill are values that are no terms.
func ill() map[string]api.Term {
	return map[string]api.Term{
		"nothing": {}, "kind 7": {Kind: 7}, "kind -1": {Kind: -1}, "a number too great": num(1<<40 + 1), "the least number": num(math.MinInt),
		"an atom without a name": {Kind: api.KAtom}, "an atom of 9": {Kind: api.KAtom, Name: "abcdefghi"}, "process 0": {Kind: api.KPid}, "process 100": {Kind: api.KPid, N: 100},
		"variable 4": {Kind: api.KVar, N: 4}, "variable -1": {Kind: api.KVar, N: -1}, "any with a number": {Kind: api.KAny, N: 1}, "any with a name": {Kind: api.KAny, Name: "a"},
		"any with args": {Kind: api.KAny, Args: []api.Term{num(1)}}, "a tuple of 9": tup(make([]api.Term, 9)...), "a tuple with one in it": tup(num(1), tup(api.Term{})),
		"a call with one in it": tup(api.Term{Kind: api.KAtom, Name: "put"}, api.Term{}), "a number with the name of a call": {Kind: api.KInt, Name: "self"},
	}
}

func TestTermsThatAreNone(t *testing.T) {
	for name, x := range ill() {
		wantError(t, name, x, readAll(t, free), 9, api.ErrForm)
		wantError(t, name+" inside", tup(x), readAll(t, free), 9, api.ErrForm)
		for i := range 4 {
			bound := readAll(t, free)
			bound[i] = x
			wantError(t, name+" as bound", read(t, "a"), bound, 9, api.ErrForm)
		}
	}
}

func TestTermsTooLarge(t *testing.T) {
	for name, x := range map[string]api.Term{"deep": nest(13, num(1)), "very deep": nest(1<<16-1, num(1)), "large": wide(201, num(1))} {
		wantError(t, name, x, readAll(t, free), 9, api.ErrLarge)
		for i := range 4 {
			bound := readAll(t, free)
			bound[i] = x
			wantError(t, name+" as bound", read(t, "a"), bound, 9, api.ErrForm)
		}
	}
}

func TestWhatMayBeBound(t *testing.T) {
	for s, want := range map[string]api.Errno{"_": api.OK, "a": api.OK, "(a (b))": api.OK, "$0": api.ErrForm, "$3": api.ErrForm, "(_)": api.ErrForm, "(a (b $1))": api.ErrForm} {
		for i := range 4 {
			bound := readAll(t, free)
			bound[i] = read(t, s)
			wantError(t, s, read(t, "a"), bound, 9, want)
		}
	}
}

func TestHowManyAreBound(t *testing.T) {
	wantError(t, "no list", read(t, "a"), nil, 9, api.ErrForm)
	for n, s := range []string{"", "_", "_ _", "_ _ _", free, "_ _ _ _ _", "a b c d e f g h"} {
		want := api.ErrForm
		if n == 4 {
			want = api.OK
		}
		wantError(t, s, read(t, "a"), readAll(t, s), 9, want)
	}
	wantError(t, "very many", read(t, "a"), make([]api.Term, 1<<16), 9, api.ErrForm)
}

func TestWhoMayBeSelf(t *testing.T) {
	for _, s := range []string{"a", "(self)"} {
		for self, want := range map[int]api.Errno{1: api.OK, 99: api.OK, 0: api.ErrArg, 100: api.ErrArg, -1: api.ErrArg, math.MinInt: api.ErrArg, math.MaxInt: api.ErrArg} {
			wantError(t, s, read(t, s), readAll(t, free), self, want)
		}
	}
}

// TestFirstErrorIsTold: those of x, of bound, of self, and then that it can't be reckoned.
func TestFirstErrorIsTold(t *testing.T) {
	large, none, open := nest(13, num(1)), readAll(t, free), read(t, "_")
	wantError(t, "x large, bound short, self 0", large, nil, 0, api.ErrLarge)
	wantError(t, "x large, self 0", large, none, 0, api.ErrLarge)
	wantError(t, "x none, self 0", api.Term{}, none, 0, api.ErrForm)
	wantError(t, "x none and large", nest(13, api.Term{}), none, 9, api.ErrForm)
	wantError(t, "x large, and has no value", nest(13, open), none, 9, api.ErrLarge)
	wantError(t, "bound short, self 0", open, nil, 0, api.ErrForm)
	wantError(t, "bound short, no value", open, nil, 9, api.ErrForm)
	wantError(t, "self 0, no value", open, none, 0, api.ErrArg)
	wantError(t, "no value", open, none, 9, api.ErrBad)
}

func TestValuesTooDeep(t *testing.T) {
	v := read(t, "$1")
	for _, c := range []struct{ outer, inner int }{{0, 12}, {1, 11}, {6, 6}, {12, 0}, {11, 1}, {1, 12}, {7, 6}, {12, 1}, {12, 12}} {
		bound := readAll(t, free)
		bound[1] = nest(c.inner, num(5))
		got, want := reckoned(t, nest(c.outer, v), bound, 9), bad
		if c.outer+c.inner <= 12 {
			want = text(nest(c.outer+c.inner, num(5)))
		}
		if got != want {
			t.Error(c, got, want)
		}
	}
	// What is written may be deeper than its value.
	inner := nest(10, num(5))
	self, put := read(t, "(self)"), tup(read(t, "put"), nest(11, num(5)))
	for want, x := range map[string]api.Term{text(nest(11, api.Term{Kind: api.KPid, N: 9})): nest(11, self), text(nest(11, num(5))): put, bad: tup(read(t, "add"), num(1), tup(read(t, "put"), inner))} {
		if got := reckoned(t, x, readAll(t, free), 9); got != want {
			t.Error(text(x), got, want)
		}
	}
}

func TestValuesTooLarge(t *testing.T) {
	v := read(t, "$3")
	bound := readAll(t, free)
	for size, want := range map[int]api.Errno{198: api.OK, 199: api.ErrBad, 200: api.ErrBad} {
		bound[3] = wide(size, num(5))
		if x, e := reckon.Value(v, bound, 9); e != api.OK || term.Order(x, bound[3]) != 0 {
			t.Error("by itself", size, x, e)
		}
		wantError(t, "in a tuple of one", tup(v), bound, 9, want)
		wantError(t, "in a large one", wide(200, v), bound, 9, api.ErrBad)
		wantError(t, "eight times", tup(v, v, v, v, v, v, v, v), bound, 9, api.ErrBad)
		wantError(t, "to be added", tup(read(t, "add"), num(1), tup(v, v, v)), bound, 9, api.ErrBad)
	}
	for size, v3 := range map[int]api.Term{199: tup(), 198: tup(num(1))} {
		bound[3] = v3
		wantError(t, "just not too large", wide(size, v), bound, 9, api.OK)
		wantError(t, "just too large", wide(size+1, v), bound, 9, api.ErrBad)
	}
}
