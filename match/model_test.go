package match_test

import (
	"math/rand"
	"testing"

	"heapmail/api"
	"heapmail/match"
	"heapmail/term"
)

// claims of a pattern on a term: by variable, the texts of all that stands
// where the variable does. Another way than the program's: nothing is bound on
// the way, and all claims are held against each other at the end.
func claims(p, x api.Term, by map[int][]string) bool {
	switch {
	case p.Kind == api.KAny:
		return true
	case p.Kind == api.KVar:
		by[p.N] = append(by[p.N], texts([]api.Term{x}))
		return true
	case p.Kind != x.Kind || len(p.Args) != len(x.Args):
		return false
	case p.Kind != api.KTuple:
		return texts([]api.Term{p}) == texts([]api.Term{x})
	}
	ok := true
	for i := range p.Args {
		ok = claims(p.Args[i], x.Args[i], by) && ok
	}
	return ok
}

// model tells what Fits should: the text of each variable, if it fits.
func model(p, x api.Term, bound []api.Term) (string, bool) {
	by := map[int][]string{}
	ok := claims(p, x, by)
	out := ""
	for i, b := range bound {
		told := texts([]api.Term{b})
		for _, s := range by[i] {
			if told == "_" {
				told = s
			}
			ok = ok && told == s
		}
		if i > 0 {
			out += " "
		}
		out += told
	}
	if !ok {
		return "", false
	}
	return out, true
}

func agrees(t *testing.T, p, x api.Term, bound []api.Term) bool {
	t.Helper()
	want, fits := model(p, x, bound)
	l, ok, e := match.Fits(p, x, bound)
	if e != api.OK || ok != fits || texts(l) != want {
		t.Fatalf("%s, %s: %q %v %v, not %q %v", texts([]api.Term{p, x}), texts(bound), texts(l), ok, e, want, fits)
	}
	return ok
}

// tuplesOf tells the tuples of up to two of l, and l itself.
func tuplesOf(l []api.Term) []api.Term {
	out := append([]api.Term{tup()}, l...)
	for _, a := range l {
		out = append(out, tup(a))
		for _, b := range l {
			out = append(out, tup(a, b))
		}
	}
	return out
}

// TestAllSmallOnes holds every small pattern, term and bound list against the model.
func TestAllSmallOnes(t *testing.T) {
	ps := tuplesOf(readAll(t, "_ $0 $1 a 1 #1 (a) ($0)"))
	xs := tuplesOf(readAll(t, "a 1 #1 (a) (1)"))
	fits := 0
	for _, p := range ps {
		for _, x := range xs {
			for _, s := range []string{free, "a _ _ _", "_ (a) _ _", "a a _ #1", "1 #1 _ _"} {
				if agrees(t, p, x, readAll(t, s)) {
					fits++
				}
			}
		}
	}
	if fits < 500 {
		t.Error("too few fit for this to say much", fits)
	}
}

func randomTerm(r *rand.Rand, depth int) api.Term {
	switch n := r.Intn(6); {
	case n == 0:
		return num(r.Intn(3) - 1)
	case n == 1:
		return api.Term{Kind: api.KPid, N: 1 + r.Intn(2)}
	case n == 2 || depth == 0:
		return api.Term{Kind: api.KAtom, Name: string("ab"[r.Intn(2)])}
	}
	x := tup()
	for range r.Intn(5) {
		x.Args = append(x.Args, randomTerm(r, depth-1))
	}
	return x
}

// pattern tells x with holes: variables, KAny, and now and then another term.
func pattern(r *rand.Rand, x api.Term) api.Term {
	switch r.Intn(12) {
	case 0, 1, 2:
		return api.Term{Kind: api.KVar, N: r.Intn(4)}
	case 3:
		return api.Term{Kind: api.KAny}
	case 4:
		if r.Intn(3) == 0 {
			return randomTerm(r, 1)
		}
	}
	if x.Kind != api.KTuple {
		return x
	}
	p := tup()
	for _, a := range x.Args {
		p.Args = append(p.Args, pattern(r, a))
	}
	return p
}

// parts of x, itself among them: what a variable may well be bound to.
func parts(x api.Term) []api.Term {
	l := []api.Term{x}
	for _, a := range x.Args {
		l = append(l, parts(a)...)
	}
	return l
}

// TestAgainstModel: terms with patterns made of them, so that many fit.
func TestAgainstModel(t *testing.T) {
	r := rand.New(rand.NewSource(1))
	fits, done := 0, 0
	for range 20000 {
		x := randomTerm(r, 4)
		if term.Check(x) != api.OK {
			continue
		}
		bound := readAll(t, free)
		if l := parts(x); r.Intn(2) == 0 {
			bound[r.Intn(4)] = l[r.Intn(len(l))]
		}
		done++
		if agrees(t, pattern(r, x), x, bound) {
			fits++
		}
	}
	if fits < done/10 || fits > done*9/10 {
		t.Error("too few of one kind for this to say much", fits, done)
	}
}
