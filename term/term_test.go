package term_test

import (
	"math"
	"strings"
	"testing"

	"heapmail/api"
	"heapmail/term"
)

func num(n int) api.Term         { return api.Term{Kind: api.KInt, N: n} }
func atom(s string) api.Term     { return api.Term{Kind: api.KAtom, Name: s} }
func pid(n int) api.Term         { return api.Term{Kind: api.KPid, N: n} }
func variable(n int) api.Term    { return api.Term{Kind: api.KVar, N: n} }
func wild() api.Term             { return api.Term{Kind: api.KAny} }
func tup(l ...api.Term) api.Term { return api.Term{Kind: api.KTuple, Args: l} }

func many(n int, t api.Term) []api.Term {
	l := make([]api.Term, n)
	for i := range l {
		l[i] = t
	}
	return l
}

// nest lays n tuples of one around t.
func nest(n int, t api.Term) api.Term {
	for range n {
		t = tup(t)
	}
	return t
}

// sized is a term of size 197 and n: near to what Check lets go.
func sized(n int) api.Term {
	row := tup(many(8, num(1))...)
	block := tup(many(8, row)...)
	return tup(block, block, row, row, row, tup(many(n, num(1))...))
}

func TestCheckOfEachKind(t *testing.T) {
	good := map[string]api.Term{
		"int 0": num(0), "int least": num(-1 << 40), "int most": num(1 << 40),
		"atom of 1": atom("a"), "atom of 8": atom("abcdefgz"),
		"pid 1": pid(1), "pid 99": pid(99),
		"empty tuple": tup(), "tuple with an empty list": {Kind: api.KTuple, Args: []api.Term{}},
		"tuple of 8": tup(many(8, atom("a"))...),
		"var 0":      variable(0), "var 3": variable(3),
		"any": wild(), "int with an empty list": {Kind: api.KInt, Args: []api.Term{}},
		"all in one": tup(num(1), atom("a"), pid(2), tup(), variable(0), wild()),
	}
	for name, x := range good {
		if e := term.Check(x); e != api.OK {
			t.Error(name, e)
		}
	}
	for name, x := range ill() {
		if e := term.Check(x); e != api.ErrForm {
			t.Error(name, e)
		}
		if e := term.Check(tup(num(1), tup(x))); e != api.ErrForm {
			t.Error(name, "inside", e)
		}
	}
}

// ill are values of the type that are no terms.
func ill() map[string]api.Term {
	one := []api.Term{num(1)}
	return map[string]api.Term{
		"nothing": {}, "kind -1": {Kind: -1}, "kind 7": {Kind: 7}, "kind least": {Kind: math.MinInt},
		"int too small": num(-1<<40 - 1), "int too great": num(1<<40 + 1),
		"int least": num(math.MinInt), "int most": num(math.MaxInt),
		"int with a name": {Kind: api.KInt, Name: "a"}, "int with args": {Kind: api.KInt, Args: one},
		"atom of none": atom(""), "atom of 9": atom("abcdefghi"), "atom with A": atom("aA"),
		"atom with `": atom("a`"), "atom with {": atom("a{"), "atom with 0": atom("a0"),
		"atom with a blank": atom("a b"), "atom with byte 255": atom("a\xff"), "atom with ä": atom("ä"),
		"atom with a number": {Kind: api.KAtom, Name: "a", N: 1},
		"atom with args":     {Kind: api.KAtom, Name: "a", Args: one},
		"pid 0":              pid(0), "pid 100": pid(100), "pid -1": pid(-1),
		"pid with a name": {Kind: api.KPid, N: 1, Name: "a"}, "pid with args": {Kind: api.KPid, N: 1, Args: one},
		"tuple of 9":   tup(many(9, num(1))...),
		"tuple with n": {Kind: api.KTuple, N: 1}, "tuple with a name": {Kind: api.KTuple, Name: "a"},
		"var -1": variable(-1), "var 4": variable(4),
		"var with a name": {Kind: api.KVar, Name: "a"}, "var with args": {Kind: api.KVar, Args: one},
		"any with n": {Kind: api.KAny, N: 1}, "any with a name": {Kind: api.KAny, Name: "a"},
		"any with args": {Kind: api.KAny, Args: one},
	}
}

func TestCheckOfLargeTerms(t *testing.T) {
	cases := []struct {
		name string
		x    api.Term
		want api.Errno
	}{
		{"12 deep", nest(12, num(1)), api.OK},
		{"12 deep, the innermost empty", nest(11, tup()), api.OK},
		{"13 deep", nest(13, num(1)), api.ErrLarge},
		{"13 deep, the innermost empty", nest(12, tup()), api.ErrLarge},
		{"13 deep, not by the first", tup(num(1), nest(12, num(1)), tup()), api.ErrLarge},
		{"size 200", sized(3), api.OK},
		{"size 201", sized(4), api.ErrLarge},
		{"deep, and ill at the bottom", nest(20, atom("")), api.ErrForm},
		{"large, and ill", tup(sized(4), num(1<<41)), api.ErrForm},
	}
	for _, c := range cases {
		if e := term.Check(c.x); e != c.want {
			t.Error(c.name, e, c.want)
		}
	}
}

func TestClosed(t *testing.T) {
	closed := []api.Term{num(1), atom("a"), pid(1), tup(), tup(num(1), tup(atom("a"))), {}, {Kind: 9}, nest(20, num(1)),
		{Kind: api.KInt, Args: []api.Term{num(1)}}}
	open := []api.Term{variable(0), variable(3), variable(99), wild(), tup(wild()), tup(num(1), tup(num(2), variable(1))), nest(20, wild()),
		{Kind: api.KAny, N: 5, Name: "?"}, {Kind: api.KInt, Args: []api.Term{wild()}}}
	for _, x := range closed {
		if !term.Closed(x) {
			t.Error("open", x)
		}
	}
	for _, x := range open {
		if term.Closed(x) {
			t.Error("closed", x)
		}
	}
}

func TestIsName(t *testing.T) {
	for name, want := range map[string]bool{"a": true, "z": true, "abcdefgz": true, "": false, "abcdefghi": false, "A": false, "a1": false, "a b": false, "a`": false, "a{": false, "ä": false, "a\x00": false} {
		if term.IsName(name) != want || (term.Check(atom(name)) == api.OK) != want {
			t.Error(name, want)
		}
	}
}

func TestSize(t *testing.T) {
	cases := []struct {
		x    api.Term
		want int
	}{
		{num(1), 0}, {atom("a"), 0}, {pid(1), 0}, {variable(0), 0}, {wild(), 0}, {api.Term{}, 0},
		{tup(), 1}, {tup(num(1)), 2}, {tup(tup()), 3}, {tup(atom("a"), tup(atom("b"), num(2)), tup()), 8},
		{tup(many(9, tup())...), 19}, {nest(13, num(1)), 26}, {tup(api.Term{}), 2}, {sized(3), 200}, {sized(4), 201},
		{api.Term{Kind: api.KInt, Args: many(3, tup())}, 0},
	}
	for _, c := range cases {
		if n := term.Size(c.x); n != c.want {
			t.Error(c.x, n, c.want)
		}
	}
}

func TestOrder(t *testing.T) {
	rising := []api.Term{
		num(-1 << 40), num(-10), num(-9), num(0), num(9), num(10), num(1 << 40),
		atom("a"), atom("aa"), atom("ab"), atom("b"), atom("zzzzzzzz"),
		pid(1), pid(2), pid(10), pid(99),
		tup(), tup(num(1)), tup(num(2)), tup(atom("a")), tup(tup()), tup(tup(num(1))), tup(wild()),
		tup(num(1), num(1)), tup(num(1), wild()), tup(num(2), num(0)), tup(tup(num(1)), num(5)), tup(tup(num(2)), num(0)),
		tup(many(8, num(-5))...),
		variable(0), variable(1), variable(3),
		wild(),
	}
	for i, a := range rising {
		for k, b := range rising {
			want := 0
			if i < k {
				want = -1
			} else if i > k {
				want = 1
			}
			if n := term.Order(a, b); n != want {
				t.Error(a, b, n, want)
			}
		}
	}
	empty := api.Term{Kind: api.KTuple, Args: []api.Term{}}
	if n := term.Order(empty, tup()); n != 0 {
		t.Error("an empty list and none", n)
	}
}

// TestAnyValueIsAnswered holds P1: whatever comes in, each call answers.
func TestAnyValueIsAnswered(t *testing.T) {
	odd := []api.Term{{}, nest(1<<16-1, num(1)), nest(1<<16-1, wild()), tup(many(1<<16, tup())...), nest(100, atom(strings.Repeat("\x00", 1<<16)))}
	for _, x := range ill() {
		odd = append(odd, x)
	}
	for _, x := range odd {
		e := term.Check(x)
		if s, f := term.Print(x); f != e || s != "" {
			t.Errorf("Print answered %q and %v beside Check's %v", s, f, e)
		}
		term.Closed(x)
		term.Size(x)
		for _, y := range odd {
			term.Order(x, y)
		}
	}
	if n := term.Size(nest(1<<16-1, num(1))); n != 2*(1<<16-1) {
		t.Error("size of a deep one", n)
	}
	if e := term.Check(nest(1<<16-1, num(1))); e != api.ErrLarge {
		t.Error("check of a deep one", e)
	}
}

// TestNothingHandedInIsChanged holds P2, with spare room behind a list.
func TestNothingHandedInIsChanged(t *testing.T) {
	inner := many(8, num(7))
	outer := many(8, atom("spare"))
	outer[0] = api.Term{Kind: api.KTuple, Args: inner[:2]}
	outer[1] = variable(1)
	x := api.Term{Kind: api.KTuple, Args: outer[:2]}
	term.Check(x)
	term.Closed(x)
	term.Size(x)
	term.Order(x, x)
	if s, e := term.Print(x); e != api.OK || s != "((7 7) $1)" {
		t.Error(s, e)
	}
	for i := range 8 {
		if term.Order(inner[i], num(7)) != 0 {
			t.Error("inner", i, inner[i])
		}
		if i > 1 && term.Order(outer[i], atom("spare")) != 0 {
			t.Error("outer", i, outer[i])
		}
	}
	if len(x.Args) != 2 || len(outer[0].Args) != 2 || term.Order(outer[1], variable(1)) != 0 {
		t.Error("changed", x)
	}
}
