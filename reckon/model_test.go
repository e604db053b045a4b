package reckon_test

import (
	"math/rand"
	"strconv"
	"strings"
	"testing"

	"heapmail/api"
	"heapmail/term"
)

// split tells the texts of the parts of the tuple whose text s is.
func split(s string) []string {
	var out []string
	open, from := 0, 0
	in := s[1 : len(s)-1]
	for i, c := range in + " " {
		switch {
		case c == '(':
			open++
		case c == ')':
			open--
		case c == ' ' && open == 0:
			if i > from {
				out = append(out, in[from:i])
			}
			from = i + 1
		}
	}
	return out
}

// model reckons texts: another way than the program's, which reckons terms.
func model(s string, bound []string) (string, bool) {
	switch s[0] {
	case '_':
		return "", false
	case '$':
		b := bound[s[1]-'0']
		return b, b != "_"
	case '(':
		return modelOfTuple(split(s), bound)
	}
	return s, true
}

func modelOfTuple(l, bound []string) (string, bool) {
	switch call := strings.Join(append(l, "")[:1], "") + strconv.Itoa(len(l)); call {
	case "self1":
		return "#9", true
	case "put2":
		return l[1], !strings.ContainsAny(l[1], "$_")
	case "add3":
		a, isValue := model(l[1], bound)
		b, isOther := model(l[2], bound)
		n, e := strconv.Atoi(a)
		m, f := strconv.Atoi(b)
		return strconv.Itoa(n + m), isValue && isOther && e == nil && f == nil && -1<<40 <= n+m && n+m <= 1<<40
	}
	var out []string
	all := true
	for _, a := range l {
		v, ok := model(a, bound)
		out, all = append(out, v), all && ok
	}
	return "(" + strings.Join(out, " ") + ")", all
}

// isSmall tells whether the term of a text is as small as must be, by its brackets and blanks.
func isSmall(s string) bool {
	open, deepest, size := 0, 0, 0
	for i, c := range s {
		switch c {
		case '(':
			open++
			size++
			if s[i+1] != ')' {
				size++
			}
		case ')':
			open--
		case ' ':
			size++
		}
		deepest = max(deepest, open)
	}
	return deepest <= 12 && size <= 200
}

// agrees holds Value against the model, and tells whether x has a value.
func agrees(t *testing.T, x api.Term, bound []api.Term) bool {
	t.Helper()
	var texts []string
	for _, b := range bound {
		texts = append(texts, text(b))
	}
	want, ok := model(text(x), texts)
	if ok = ok && isSmall(want); !ok {
		want = bad
	}
	if got := reckoned(t, x, bound, 9); got != want {
		t.Fatalf("%s with %v: %s, not %s", text(x), texts, got, want)
	}
	return ok
}

// tuplesOf tells the tuples of up to three of l.
func tuplesOf(l []api.Term) []api.Term {
	out := []api.Term{tup()}
	for _, a := range l {
		out = append(out, tup(a))
		for _, b := range l {
			out = append(out, tup(a, b))
			for _, c := range l {
				out = append(out, tup(a, b, c))
			}
		}
	}
	return out
}

// TestAllSmallOnes holds every small term against the model, with some that are bound.
func TestAllSmallOnes(t *testing.T) {
	leaves := readAll(t, "self add put (1 #1 $0 $1 _)")
	leaves = append(leaves[:3:3], leaves[3].Args...)
	small := append(leaves, tuplesOf(readAll(t, "self add put 1 $0"))...)
	parts := append(leaves, readAll(t, "(self) (put $0) (put (self)) (add 1 $0) (add 1) ()")...)
	values := 0
	for _, x := range append(small, tuplesOf(parts)...) {
		for _, s := range []string{free, "1 _ _ _", "add (self) _ _", "1099511627776 -1 _ _"} {
			if agrees(t, x, readAll(t, s)) {
				values++
			}
		}
	}
	if values < 2000 {
		t.Error("too few have a value for this to say much", values)
	}
}

// randomLeaf is seldom one that has no value.
func randomLeaf(r *rand.Rand, vars int) api.Term {
	switch n := r.Intn(40); {
	case n == 0 && vars > 0:
		return api.Term{Kind: api.KAny}
	case n < 14 && vars > 0:
		return api.Term{Kind: api.KVar, N: r.Intn(vars)}
	case n < 20:
		return api.Term{Kind: api.KPid, N: 1 + r.Intn(99)}
	case n < 23:
		return num([]int{1 << 40, -1 << 40, 1<<40 - 3}[r.Intn(3)])
	case n < 30:
		return num(r.Intn(9) - 4)
	}
	return api.Term{Kind: api.KAtom, Name: []string{"self", "add", "put", "a"}[r.Intn(4)]}
}

// randomSum is often one that can be reckoned.
func randomSum(r *rand.Rand, depth int) api.Term {
	if depth == 0 || r.Intn(3) == 0 {
		return num(r.Intn(2000) - 1000)
	}
	return tup(api.Term{Kind: api.KAtom, Name: "add"}, randomSum(r, depth-1), randomSum(r, depth-1))
}

// randomTerm with that many variables: 0 for one that is closed.
func randomTerm(r *rand.Rand, depth, vars int) api.Term {
	if depth == 0 || r.Intn(4) == 0 {
		return randomLeaf(r, vars)
	}
	if r.Intn(6) == 0 {
		return randomSum(r, depth-1)
	}
	x := tup()
	for range r.Intn(5) {
		x.Args = append(x.Args, randomTerm(r, depth-1, vars))
	}
	if len(x.Args) > 0 && r.Intn(2) == 0 {
		x.Args[0] = api.Term{Kind: api.KAtom, Name: []string{"self", "put", "add"}[r.Intn(3)]}
	}
	return x
}

// TestAgainstModel: random terms, with random ones that are bound; some values are too large.
func TestAgainstModel(t *testing.T) {
	r := rand.New(rand.NewSource(1))
	values, done := 0, 0
	for range 40000 {
		x := randomTerm(r, 1+r.Intn(5), 4)
		bound := readAll(t, free)
		for i := range bound {
			if b := randomTerm(r, r.Intn(6), 0); r.Intn(20) > 0 && term.Check(b) == api.OK {
				bound[i] = b
			}
		}
		if term.Check(x) != api.OK {
			continue
		}
		done++
		if agrees(t, x, bound) {
			values++
		}
	}
	if values < done/5 || values > done*9/10 {
		t.Error("too few of one kind for this to say much", values, done)
	}
}
