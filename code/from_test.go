package code_test

import (
	"math/rand"
	"strings"
	"testing"

	"heapmail/api"
	"heapmail/code"
	"heapmail/term"
)

// wantNone: t is refused with that error, and nothing is told beside it.
func wantNone(t *testing.T, name string, x api.Term, want api.Errno) {
	t.Helper()
	if l, e := code.From(x); e != want || l != nil {
		t.Error(name, l, e, "want", want)
	}
}

func TestTermsThatAreNoPrograms(t *testing.T) {
	for _, s := range []string{
		"a", "1", "#1", "$0", "_", "()", "code", "(code)", "(code a)", "(code ())", "((code (beh a (on a a () a))))", "(1 (beh a (on a a () a)))", "((beh a (on a a () a)))", "(cod (beh a (on a a () a)))",
		"(code (beh))", "(code (beh a))", "(code (beh (on a a () a)))", "(code beh a (on a a () a))", "(code (on a a () a))", "(code (be a (on a a () a)))", "(code (beh 1 (on a a () a)))", "(code (beh $0 (on a a () a)))", "(code (beh (a) (on a a () a)))", "(code (beh a b))", "(code (beh a ()))", "(code (beh a b (on a a () a)))",
		"(code (beh a (on a a () a)) a)", "(code (beh a (on a a () a)) (beh a))", "(code (beh a (on a a () a) a))", "(code (beh a (a a a () a)))",
		"(code (beh a (on)))", "(code (beh a (on a)))", "(code (beh a (on a a)))", "(code (beh a (on a a ())))", "(code (beh a (on a a () a b)))", "(code (beh a (on a a a a)))", "(code (beh a (on a a _ a)))", "(code (beh a (on a () a a)))", "(code (beh a (on a a (stop) a)))", "(code (beh a (on a a (a) a)))", "(code (beh a (on a a (()) a)))",
	} {
		wantNone(t, s, read(t, s), api.ErrForm)
	}
}

func TestActsThatAreNone(t *testing.T) {
	for _, s := range []string{
		"stop", "()", "(a)", "(1)", "((stop))", "(stops)", "(stop a)", "(stop ())", "(link)", "(link a a)", "(send)", "(send a)", "(send a a a)",
		"(spawn)", "(spawn a)", "(spawn a a)", "(spawn a a $0 a)", "(spawn a a a)", "(spawn a a _)", "(spawn a a 0)", "(spawn a a ($0))", "(spawn 1 a $0)", "(spawn $0 a $0)", "(spawn _ a $0)", "(spawn (a) a $0)", "(spawn $0 a a)",
	} {
		for _, form := range []string{"(on a a (X) a)", "(on a a (X (stop)) a)", "(on a a ((stop) X) a)"} {
			s := "(code (beh a (on a a () a) " + strings.Replace(form, "X", s, 1) + "))"
			wantNone(t, s, read(t, s), api.ErrForm)
		}
	}
}

// TestTooManyToRead: such tuples have more parts than a term may have.
func TestTooManyToRead(t *testing.T) {
	beh := read(t, withBehaviours(1)).Args[1]
	on := beh.Args[2]
	many := func(n int, first []api.Term, x api.Term) api.Term {
		l := append([]api.Term(nil), first...)
		for range n {
			l = append(l, x)
		}
		return tup(l...)
	}
	head := []api.Term{read(t, "code")}
	acts := read(t, "(on a a () a)")
	acts.Args[3] = many(9, nil, read(t, "(stop)"))
	wantNone(t, "8 behaviours", many(8, head, beh), api.ErrForm)
	wantNone(t, "7 clauses", tup(head[0], many(7, beh.Args[:2], on)), api.ErrForm)
	wantNone(t, "9 acts", tup(head[0], tup(beh.Args[0], beh.Args[1], acts)), api.ErrForm)
	wantNone(t, "very many", many(1<<16, head, beh), api.ErrForm)
}

// TestFromTellsTheCheckFirst: a term that is none, or too large, is refused as that, a program or not.
func TestFromTellsTheCheckFirst(t *testing.T) {
	for name, x := range map[string]api.Term{
		"nothing": {}, "kind 7": {Kind: 7}, "an atom without a name": {Kind: api.KAtom}, "variable 4": {Kind: api.KVar, N: 4}, "process 0": {Kind: api.KPid}, "code with a number": {Kind: api.KAtom, Name: "code", N: 1},
		"deep, and none at the bottom": nest(13, api.Term{}),
	} {
		wantNone(t, name, x, api.ErrForm)
		p := read(t, withActs(1))
		p.Args[1].Args[2].Args[1] = x
		wantNone(t, name+" as a state", p, api.ErrForm)
	}
	wantNone(t, "deep, and no program", nest(13, num(1)), api.ErrLarge)
	wantNone(t, "very deep", nest(1<<16-1, num(1)), api.ErrLarge)
	wantNone(t, "large, and no program", sized(201), api.ErrLarge)
	for _, i := range []int{1, 2, 4} {
		p := read(t, withActs(0))
		p.Args[1].Args[2].Args[i] = nest(9, num(1))
		wantProgram(t, text(p))
		p.Args[1].Args[2].Args[i] = nest(10, num(1))
		wantNone(t, "a program too deep", p, api.ErrLarge)
		p.Args[1].Args[2].Args[i] = sized(186)
		wantProgram(t, text(p))
		p.Args[1].Args[2].Args[i] = sized(187)
		wantNone(t, "a program too large", p, api.ErrLarge)
	}
}

// words of a text, brackets among them, that a program is looked for in: another way than the program's, which goes
// through terms.
type words []string

func wordsOf(s string) words {
	return strings.Fields(strings.NewReplacer("(", " ( ", ")", " ) ").Replace(s))
}

// skip tells whether these words come next, and goes on behind them.
func (w *words) skip(l ...string) bool {
	for _, s := range l {
		if len(*w) == 0 || (*w)[0] != s {
			return false
		}
		*w = (*w)[1:]
	}
	return true
}

// skipOne tells whether a word comes next that begins with one of these bytes.
func (w *words) skipOne(bytes string) bool {
	return len(*w) > 0 && strings.Contains(bytes, (*w)[0][:1]) && w.skip((*w)[0])
}

func (w *words) skipName() bool { return w.skipOne("abcdefghijklmnopqrstuvwxyz") }

func (w *words) skipTerm() bool {
	if !w.skip("(") {
		return len(*w) > 0 && (*w)[0] != ")" && w.skip((*w)[0])
	}
	for !w.skip(")") {
		if !w.skipTerm() {
			return false
		}
	}
	return true
}

// skipMany tells whether least to most of what one skips come next, and a bracket behind them.
func (w *words) skipMany(least, most int, one func() bool) bool {
	for n := 0; ; n++ {
		if w.skip(")") {
			return least <= n && n <= most
		}
		if !one() {
			return false
		}
	}
}

func (w *words) skipAct() bool {
	if !w.skip("(") {
		return false
	}
	ok := false
	switch {
	case w.skip("send"):
		ok = w.skipTerm() && w.skipTerm()
	case w.skip("spawn"):
		ok = w.skipName() && w.skipTerm() && w.skipOne("$")
	case w.skip("link"):
		ok = w.skipTerm()
	case w.skip("stop"):
		ok = true
	}
	return ok && w.skip(")")
}

func (w *words) skipClause() bool {
	return w.skip("(", "on") && w.skipTerm() && w.skipTerm() && w.skip("(") && w.skipMany(0, 8, w.skipAct) && w.skipTerm() && w.skip(")")
}

func (w *words) skipBehaviour() bool {
	return w.skip("(", "beh") && w.skipName() && w.skipMany(1, 6, w.skipClause)
}

func isProgramText(s string) bool {
	w := wordsOf(s)
	return w.skip("(", "code") && w.skipMany(1, 7, w.skipBehaviour) && len(w) == 0
}

// agrees holds From, and To, against the words, and tells whether x is a program.
func agrees(t *testing.T, x api.Term) bool {
	t.Helper()
	if e := term.Check(x); e != api.OK {
		wantNone(t, "changed", x, e)
		return false
	}
	s := text(x)
	if !isProgramText(s) {
		wantNone(t, s, x, api.ErrForm)
		return false
	}
	wantProgram(t, s)
	return true
}

// changes tells x with one place in it changed: another term there, a part taken out, laid twice, or changed with the
// one behind it.
func changes(x api.Term, others []api.Term) []api.Term {
	out := append([]api.Term(nil), others...)
	with := func(l ...[]api.Term) {
		y := tup()
		for _, p := range l {
			y.Args = append(y.Args, p...)
		}
		out = append(out, y)
	}
	for i, a := range x.Args {
		ahead, behind := x.Args[:i], x.Args[i+1:]
		with(ahead, behind)
		with(ahead, []api.Term{a, a}, behind)
		if len(behind) > 0 {
			with(ahead, behind[:1], []api.Term{a}, behind[1:])
		}
		for _, c := range changes(a, others) {
			with(ahead, []api.Term{c}, behind)
		}
	}
	return out
}

const many = "(code (beh a (on $0 (n $1) ((send $0 (n 1)) (spawn b 3 $2) (link $2) (stop)) $0) (on a a () a)) (beh b (on _ () ((stop)) #1)))"

func others(t *testing.T) []api.Term {
	return read(t, "(a 1 #1 $0 _ () (stop) on)").Args
}

// TestEachPlaceChanged: every change of one place of some programs.
func TestEachPlaceChanged(t *testing.T) {
	programs, done := 0, 0
	for _, s := range []string{many, withBehaviours(7), withClauses(6), withActs(8), withActs(0)} {
		for _, x := range changes(read(t, s), others(t)) {
			done++
			if agrees(t, x) {
				programs++
			}
		}
	}
	if programs < done/10 || programs > done*9/10 {
		t.Error("too few of one kind for this to say much", programs, done)
	}
}

// TestSomePlacesChanged: random ones of many changes, one after the other.
func TestSomePlacesChanged(t *testing.T) {
	r := rand.New(rand.NewSource(1))
	programs, done, to := 0, 0, others(t)
	for range 200 {
		x := read(t, many)
		for range 4 {
			l := changes(x, to)
			y := l[r.Intn(len(l))]
			done++
			if agrees(t, y) {
				programs++
				x = y
			}
		}
	}
	if programs < done/10 || programs > done*9/10 {
		t.Error("too few of one kind for this to say much", programs, done)
	}
}
