package reckon_test

import (
	"reflect"
	"strconv"
	"testing"

	"heapmail/api"
	"heapmail/reckon"
	"heapmail/term"
)

func read(t *testing.T, s string) api.Term {
	t.Helper()
	x, at, e := term.Parse(s)
	if e != api.OK {
		t.Fatal(s, at, e)
	}
	return x
}

// readAll tells the terms whose texts stand in the tuple that s is.
func readAll(t *testing.T, s string) []api.Term {
	t.Helper()
	return read(t, "("+s+")").Args
}

func text(x api.Term) string {
	s, e := term.Print(x)
	if e != api.OK {
		return "?"
	}
	return s
}

func num(n int) api.Term         { return api.Term{Kind: api.KInt, N: n} }
func tup(l ...api.Term) api.Term { return api.Term{Kind: api.KTuple, Args: l} }

// nest lays n tuples of one around x.
func nest(n int, x api.Term) api.Term {
	for range n {
		x = tup(x)
	}
	return x
}

// wide is a term of that size, from 198 to 205, with x, which is no tuple, as its last part.
func wide(size int, x api.Term) api.Term {
	row := tup(num(1), num(1), num(1), num(1), num(1), num(1), num(1), num(1))
	block := tup(row, row, row, row, row, row, row, row)
	rest := make([]api.Term, size-197)
	for i := range rest {
		rest[i] = num(1)
	}
	rest[len(rest)-1] = x
	return tup(block, block, row, row, row, tup(rest...))
}

const free = "_ _ _ _"

// bad is what is wanted where a term can't be reckoned.
const bad = "bad"

// reckoned tells the text of the value of x, or bad, and that nothing else was told.
func reckoned(t *testing.T, x api.Term, bound []api.Term, self int) string {
	t.Helper()
	v, e := reckon.Value(x, bound, self)
	if e == api.OK {
		return text(v)
	}
	if e != api.ErrBad || !reflect.DeepEqual(v, api.Term{}) {
		t.Error(text(x), "answers", v, e)
	}
	return bad
}

// check holds terms, and what is wanted of them, pair by pair, with bound, as process 9.
func check(t *testing.T, bound string, pairs [][2]string) {
	t.Helper()
	for _, c := range pairs {
		if got := reckoned(t, read(t, c[0]), readAll(t, bound), 9); got != c[1] {
			t.Errorf("%s with %s: %s, not %s", c[0], bound, got, c[1])
		}
	}
}

func TestWhatIsItself(t *testing.T) {
	for _, s := range []string{"0", "7", "-7", "1099511627776", "-1099511627776", "a", "abcdefgh", "self", "add", "put", "#1", "#9", "#99",
		"()", "(())", "(a)", "(1 2)", "(a (b (c)) #3)", "(1 2 3 4 5 6 7 8)", "((a) self)", "(a add 1 2)"} {
		check(t, free, [][2]string{{s, s}, {"(z " + s + ")", "(z " + s + ")"}})
	}
}

func TestVariables(t *testing.T) {
	check(t, "7 (a b) _ #3", [][2]string{
		{"$0", "7"}, {"$1", "(a b)"}, {"$2", bad}, {"$3", "#3"}, {"_", bad},
		{"($0 $1 $3)", "(7 (a b) #3)"}, {"($1 ($1 $1))", "((a b) ((a b) (a b)))"}, {"(a (b ($0)))", "(a (b (7)))"},
		{"($2)", bad}, {"(_)", bad}, {"(a b c $2)", bad}, {"($2 a b c)", bad}, {"(a (b _) c)", bad}, {"(((($2))))", bad},
	})
	check(t, "a b c d", [][2]string{{"($3 $2 $1 $0)", "(d c b a)"}})
}

// TestWhatIsBoundIsNotReckoned: neither what a variable is bound to, nor a tuple that becomes a call by it.
func TestWhatIsBoundIsNotReckoned(t *testing.T) {
	check(t, "self add put (add 1 2)", [][2]string{
		{"$3", "(add 1 2)"}, {"(a $3)", "(a (add 1 2))"}, {"(add $3 1)", bad}, {"(add (add 1 2) 1)", "4"},
		{"($0)", "(self)"}, {"($1 1 2)", "(add 1 2)"}, {"($2 a)", "(put a)"}, {"($2 (self))", "(put #9)"}, {"($2 $0)", "(put self)"},
		{"((put self))", "(self)"}, {"((put add) 1 2)", "(add 1 2)"}, {"((put put) $3)", "(put (add 1 2))"},
	})
	check(t, "(self) (put (self)) (put a) _", [][2]string{{"$0", "(self)"}, {"$1", "(put (self))"}, {"($2)", "((put a))"}})
}

func TestSelf(t *testing.T) {
	check(t, free, [][2]string{
		{"(self)", "#9"}, {"((self))", "(#9)"}, {"((self) self (self))", "(#9 self #9)"}, {"(self 1)", "(self 1)"}, {"(self self)", "(self self)"}, {"(self (self))", "(self #9)"},
		{"(self $0)", bad}, {"(self _)", bad}, {"(self ())", "(self ())"}, {"(selfs)", "(selfs)"}, {"(sel)", "(sel)"},
	})
	for self := 1; self <= 99; self++ {
		if got := reckoned(t, read(t, "(self)"), readAll(t, free), self); got != "#"+strconv.Itoa(self) {
			t.Error(self, got)
		}
	}
}

func TestAdd(t *testing.T) {
	check(t, "7 (a b) _ -3", [][2]string{
		{"(add 2 3)", "5"}, {"(add 1 -3)", "-2"}, {"(add 0 0)", "0"}, {"(add $0 $3)", "4"}, {"(add $0 (add 1 2))", "10"}, {"(add (add $0 $0) (add $3 (add 1 1)))", "13"},
		{"((add 1 2) (add 3 4))", "(3 7)"}, {"(add (put 1) 2)", "3"}, {"(add 1 (put 2))", "3"},
		{"(add)", "(add)"}, {"(add 1)", "(add 1)"}, {"(add a)", "(add a)"}, {"(add 1 2 3)", "(add 1 2 3)"}, {"(add (add 1 2))", "(add 3)"}, {"(add $0 $0 $0)", "(add 7 7 7)"}, {"(1 add 2)", "(1 add 2)"}, {"(adds 1 2)", "(adds 1 2)"},
		{"(add a 1)", bad}, {"(add 1 a)", bad}, {"(add #1 1)", bad}, {"(add 1 #1)", bad}, {"(add () 1)", bad}, {"(add 1 (1))", bad}, {"(add $1 1)", bad}, {"(add 1 $1)", bad}, {"(add (self) 1)", bad}, {"(add 1 (self))", bad},
		{"(add $2 1)", bad}, {"(add 1 $2)", bad}, {"(add _ 1)", bad}, {"(add 1 _)", bad}, {"(add (put $0) 1)", bad}, {"(add 1 (put (add 1 2)))", bad}, {"(add add add)", bad},
	})
}

func TestSumsAtTheBounds(t *testing.T) {
	check(t, "1099511627776 -1099511627776 1099511627775 _", [][2]string{
		{"(add $2 1)", "1099511627776"}, {"(add $0 0)", "1099511627776"}, {"(add 1 $0)", bad}, {"(add $0 1)", bad}, {"(add $0 $0)", bad}, {"(add $2 2)", bad},
		{"(add $1 0)", "-1099511627776"}, {"(add $1 1)", "-1099511627775"}, {"(add $1 -1)", bad}, {"(add -1 $1)", bad}, {"(add $1 $1)", bad}, {"(add $0 $1)", "0"}, {"(add $1 $2)", "-1"},
		{"(add (add $0 1) -1)", bad}, {"(add -1 (add $0 1))", bad}, {"(add (add $0 -1) 1)", "1099511627776"}, {"(a (add $0 1))", bad},
		{"(add 549755813888 549755813888)", "1099511627776"}, {"(add 549755813888 549755813889)", bad}, {"(add -549755813888 -549755813888)", "-1099511627776"}, {"(add -549755813889 -549755813888)", bad},
	})
}

func TestPut(t *testing.T) {
	check(t, "7 (a b) _ _", [][2]string{
		{"(put a)", "a"}, {"(put 1)", "1"}, {"(put ())", "()"}, {"(put (add 1 2))", "(add 1 2)"}, {"(put (self))", "(self)"}, {"(put (put a))", "(put a)"}, {"(put (add a 1))", "(add a 1)"}, {"(put put)", "put"},
		{"((put (self)) (self))", "((self) #9)"}, {"(a (b (put (add 1 2))))", "(a (b (add 1 2)))"},
		{"(put)", "(put)"}, {"(put a b)", "(put a b)"}, {"(put (add 1 2) b)", "(put 3 b)"}, {"(put $0 $1)", "(put 7 (a b))"}, {"(a put (self))", "(a put #9)"}, {"(puts (self))", "(puts #9)"},
		{"(put $0)", bad}, {"(put $2)", bad}, {"(put _)", bad}, {"(put (a $0))", bad}, {"(put (a (b _)))", bad}, {"(put (put $1))", bad}, {"(a (put $0))", bad}, {"(put a $2)", bad}, {"(put _ a)", bad},
	})
}
