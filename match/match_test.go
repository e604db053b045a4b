package match_test

import (
	"strings"
	"testing"

	"heapmail/api"
	"heapmail/match"
	"heapmail/term"
)

func read(t *testing.T, s string) api.Term {
	t.Helper()
	x, at, e := term.Parse(s)
	if e != api.OK {
		t.Fatal(s, at, e)
	}
	return x
}

// readAll tells the terms whose texts stand in the tuple that s is.
func readAll(t *testing.T, s string) []api.Term {
	t.Helper()
	return read(t, "("+s+")").Args
}

// texts of terms, with a blank between.
func texts(l []api.Term) string {
	var out []string
	for _, x := range l {
		s, e := term.Print(x)
		if e != api.OK {
			s = "?"
		}
		out = append(out, s)
	}
	return strings.Join(out, " ")
}

func num(n int) api.Term         { return api.Term{Kind: api.KInt, N: n} }
func tup(l ...api.Term) api.Term { return api.Term{Kind: api.KTuple, Args: l} }

// nest lays n tuples of one around x.
func nest(n int, x api.Term) api.Term {
	for range n {
		x = tup(x)
	}
	return x
}

// wide is a term of that size, from 197 to 205, with x as its last part.
func wide(size int, x api.Term) api.Term {
	row := tup(num(1), num(1), num(1), num(1), num(1), num(1), num(1), num(1))
	block := tup(row, row, row, row, row, row, row, row)
	rest := make([]api.Term, size-197)
	for i := range rest {
		rest[i] = num(1)
	}
	if len(rest) > 0 {
		rest[len(rest)-1] = x
	}
	return tup(block, block, row, row, row, tup(rest...))
}

const free = "_ _ _ _"

// fit is one call, and what is wanted of it: "" where it doesn't fit.
type fit struct{ p, t, bound, want string }

func check(t *testing.T, cases []fit) {
	t.Helper()
	for _, c := range cases {
		l, ok, e := match.Fits(read(t, c.p), read(t, c.t), readAll(t, c.bound))
		if e != api.OK || ok != (c.want != "") || texts(l) != c.want {
			t.Errorf("%v: %q %v %v", c, texts(l), ok, e)
		}
		if !ok && len(l) != 0 {
			t.Errorf("%v: a list beside what doesn't fit: %v", c, l)
		}
	}
}

func TestWhatFitsItself(t *testing.T) {
	all := []string{"0", "1", "-1", "1099511627776", "-1099511627776", "a", "aa", "b", "abcdefgh", "#1", "#2", "#99",
		"()", "(())", "(a)", "(1)", "(#1)", "(a a)", "(a b)", "(b a)", "((a) b)", "(a (b))", "(() ())", "(1 2 3 4 5 6 7 8)", "(1 2 3 4 5 6 7 9)", "(1 2 3 4 5 6 7)"}
	for _, p := range all {
		for _, x := range all {
			c := fit{p, x, free, ""}
			if p == x {
				c.want = free
			}
			check(t, []fit{c, {"_", x, free, free}, {"(z " + p + ")", "(z " + x + ")", free, c.want}})
		}
	}
}

func TestVariables(t *testing.T) {
	check(t, []fit{
		{"($0 5)", "(a 5)", free, "a _ _ _"},
		{"$0", "7", free, "7 _ _ _"}, {"$3", "(a (b))", free, "_ _ _ (a (b))"}, {"$2", "()", free, "_ _ () _"},
		{"($3 $2 $1 $0)", "(a 2 #3 (4))", free, "(4) #3 2 a"},
		{"($0 $0)", "(a a)", free, "a _ _ _"}, {"($0 $0)", "(a b)", free, ""}, {"($0 $0)", "(1 #1)", free, ""},
		{"($1 ($1))", "((a) ((a)))", free, "_ (a) _ _"}, {"($1 ($1))", "((a) (a))", free, ""},
		{"(($0 $1) ($1 $0))", "((1 2) (2 1))", free, "1 2 _ _"}, {"(($0 $1) ($1 $0))", "((1 2) (1 2))", free, ""},
		{"($0 $1)", "(a a)", free, "a a _ _"}, {"($0 ($1))", "(a a)", free, ""},
		{"(_ $0 _)", "(a b c)", free, "b _ _ _"}, {"(_ _)", "(a (b))", free, free}, {"(_)", "()", free, ""}, {"()", "(a)", free, ""}, {"(_)", "a", free, ""},
		{"($0 $0 $0 $0 $0 $0 $0 $0)", "(a a a a a a a a)", free, "a _ _ _"}, {"($0 $0 $0 $0 $0 $0 $0 $0)", "(a a a a a a a b)", free, ""},
	})
}

func TestWhatIsBoundBeforehand(t *testing.T) {
	check(t, []fit{
		{"$0", "a", "a _ _ _", "a _ _ _"}, {"$0", "b", "a _ _ _", ""}, {"$0", "(a)", "a _ _ _", ""},
		{"$1", "b", "a _ _ _", "a b _ _"}, {"_", "b", "a 1 #2 (c)", "a 1 #2 (c)"}, {"b", "b", "a 1 #2 (c)", "a 1 #2 (c)"},
		{"($3 $2 $1 $0)", "((c) #2 1 a)", "a 1 #2 (c)", "a 1 #2 (c)"}, {"($3 $2 $1 $0)", "((c) #2 1 b)", "a 1 #2 (c)", ""},
		{"($0 $3)", "((x ()) y)", "(x ()) _ _ _", "(x ()) _ _ y"}, {"($0 $3)", "((x (z)) y)", "(x ()) _ _ _", ""},
		{"$2", "()", "a a () a", "a a () a"}, {"$2", "2", "_ _ #2 _", ""}, {"$0", "0", "0 _ _ _", "0 _ _ _"},
	})
}

// TestWhatFailsBindsNothing: what was bound ahead of where it fails isn't told, nor met in the next call.
func TestWhatFailsBindsNothing(t *testing.T) {
	bound := readAll(t, free)
	p := read(t, "($0 $1 z)")
	for range 2 {
		if l, ok, e := match.Fits(p, read(t, "(a b c)"), bound); len(l) != 0 || ok || e != api.OK {
			t.Error(l, ok, e)
		}
		if texts(bound) != free {
			t.Fatal(texts(bound))
		}
		if l, ok, e := match.Fits(p, read(t, "(1 2 z)"), bound); texts(l) != "1 2 _ _" || !ok || e != api.OK {
			t.Error(l, ok, e)
		}
	}
}

func TestLargest(t *testing.T) {
	none := readAll(t, free)
	deep, large := nest(12, num(5)), wide(200, num(5))
	for _, x := range []api.Term{deep, large} {
		bound := []api.Term{none[0], none[1], none[2], x}
		for _, p := range []api.Term{x, none[0], read(t, "$1"), read(t, "$3")} {
			if l, ok, e := match.Fits(p, x, bound); e != api.OK || !ok || len(l) != 4 || term.Order(l[3], x) != 0 {
				t.Error(texts([]api.Term{p, x}), l, ok, e)
			}
		}
	}
	if l, ok, e := match.Fits(nest(12, read(t, "$2")), deep, none); e != api.OK || !ok || texts(l) != "_ _ 5 _" {
		t.Error(texts(l), ok, e)
	}
	if l, ok, e := match.Fits(wide(200, read(t, "$2")), large, none); e != api.OK || !ok || texts(l) != "_ _ 5 _" {
		t.Error(texts(l), ok, e)
	}
	if l, ok, e := match.Fits(large, wide(200, num(6)), none); e != api.OK || ok || len(l) != 0 {
		t.Error(texts(l), ok, e)
	}
}
