package code_test

import (
	"fmt"
	"strings"
	"testing"

	"heapmail/api"
	"heapmail/code"
	"heapmail/term"
)

func read(t *testing.T, s string) api.Term {
	t.Helper()
	x, at, e := term.Parse(s)
	if e != api.OK {
		t.Fatal(s, at, e)
	}
	return x
}

func text(x api.Term) string {
	s, e := term.Print(x)
	if e != api.OK {
		return fmt.Sprint("error ", e)
	}
	return s
}

func num(n int) api.Term         { return api.Term{Kind: api.KInt, N: n} }
func tup(l ...api.Term) api.Term { return api.Term{Kind: api.KTuple, Args: l} }

// nest lays n tuples of one around x.
func nest(n int, x api.Term) api.Term {
	for range n {
		x = tup(x)
	}
	return x
}

// sized is a term of that size, as flat as can be.
func sized(size int) api.Term {
	if size == 0 {
		return num(1)
	}
	x := tup(make([]api.Term, min(size-1, 8))...)
	rest := size - 1 - len(x.Args)
	for i := range x.Args {
		share := rest / (len(x.Args) - i)
		x.Args[i] = sized(share)
		rest -= share
	}
	return x
}

// written is the text of a program, made of its list without the program's calls.
func written(l []api.Behaviour) string {
	var behs []string
	for _, b := range l {
		parts := []string{"beh", b.Name}
		for _, c := range b.Clauses {
			var acts []string
			for _, a := range c.Acts {
				acts = append(acts, writtenAct(a))
			}
			parts = append(parts, fmt.Sprintf("(on %s %s (%s) %s)", text(c.State), text(c.Message), strings.Join(acts, " "), text(c.Next)))
		}
		behs = append(behs, "("+strings.Join(parts, " ")+")")
	}
	return "(code " + strings.Join(behs, " ") + ")"
}

func writtenAct(a api.Act) string {
	switch a.Kind {
	case api.ASend:
		return fmt.Sprintf("(send %s %s)", text(a.To), text(a.What))
	case api.ASpawn:
		return fmt.Sprintf("(spawn %s %s $%d)", a.Name, text(a.What), a.Var)
	case api.ALink:
		return fmt.Sprintf("(link %s)", text(a.To))
	case api.AStop:
		return "(stop)"
	}
	return "?"
}

// wantProgram: s is the text of a program, which is told from it, and told as it again.
func wantProgram(t *testing.T, s string) []api.Behaviour {
	t.Helper()
	l, e := code.From(read(t, s))
	if e != api.OK || written(l) != s {
		t.Fatal(s, "is read as", written(l), e)
	}
	if x, e := code.To(l); e != api.OK || text(x) != s {
		t.Fatal(s, "is told as", text(x), e)
	}
	return l
}

// wantList: %+v tells a list that is nil and one that is empty alike, as the document does.
func wantList(t *testing.T, s string, want []api.Behaviour) {
	t.Helper()
	if got := wantProgram(t, s); fmt.Sprintf("%+v", got) != fmt.Sprintf("%+v", want) {
		t.Errorf("%s\ntells  %+v\nwanted %+v", s, got, want)
	}
}

func TestExampleOfTheDocument(t *testing.T) {
	wantList(t, "(code (beh relay (on $0 (n $1) () $0)))", []api.Behaviour{{Name: "relay", Clauses: []api.Clause{{
		State: read(t, "$0"), Message: read(t, "(n $1)"), Next: read(t, "$0"),
	}}}})
}

// TestWhatEachActHas: all else of it is 0, empty.
func TestWhatEachActHas(t *testing.T) {
	wantList(t, "(code (beh a (on b c ((send #1 (x 5)) (spawn d (y) $3) (link (self)) (stop)) e)))", []api.Behaviour{{Name: "a", Clauses: []api.Clause{{
		State: read(t, "b"), Message: read(t, "c"), Next: read(t, "e"),
		Acts: []api.Act{
			{Kind: api.ASend, To: read(t, "#1"), What: read(t, "(x 5)")},
			{Kind: api.ASpawn, Name: "d", What: read(t, "(y)"), Var: 3},
			{Kind: api.ALink, To: read(t, "(self)")},
			{Kind: api.AStop},
		},
	}}}})
}

// TestOrderIsKept: of behaviours, of clauses, of acts; and one name may stand twice.
func TestOrderIsKept(t *testing.T) {
	l := wantProgram(t, "(code (beh b (on 1 1 () 1) (on 2 2 ((stop) (link 1) (stop)) 2)) (beh a (on 3 3 () 3)) (beh b (on 4 4 () 4)))")
	if len(l) != 3 || l[0].Name != "b" || l[1].Name != "a" || l[2].Name != "b" || len(l[0].Clauses) != 2 {
		t.Fatal(l)
	}
	if l[0].Clauses[0].State.N != 1 || l[0].Clauses[1].Next.N != 2 || l[1].Clauses[0].Message.N != 3 || l[2].Clauses[0].State.N != 4 {
		t.Error(l)
	}
	if a := l[0].Clauses[1].Acts; len(a) != 3 || a[0].Kind != api.AStop || a[1].Kind != api.ALink || a[2].Kind != api.AStop {
		t.Error(a)
	}
}

// TestAnyTermsMayStandWithin: those that look like parts of a program, too.
func TestAnyTermsMayStandWithin(t *testing.T) {
	for _, x := range []string{"_", "$0", "$3", "#99", "-1099511627776", "()", "(() (_ $2))", "code", "on", "(stop)", "((stop))", "(code)", "(on a a () a)", "(code (beh a (on a a () a)))"} {
		for _, form := range []string{
			"(on X a () a)", "(on a X () a)", "(on a a () X)", "(on X X () X)",
			"(on a a ((send X a)) a)", "(on a a ((send a X)) a)", "(on a a ((send X X)) a)", "(on a a ((spawn a X $0)) a)", "(on a a ((link X)) a)",
		} {
			wantProgram(t, strings.ReplaceAll("(code (beh a "+form+"))", "X", x))
		}
	}
}

func TestNamesAndVariables(t *testing.T) {
	for _, name := range []string{"a", "z", "abcdefgh", "zzzzzzzz", "code", "beh", "on", "send", "stop"} {
		for v := range 4 {
			wantProgram(t, fmt.Sprintf("(code (beh %s (on a a ((spawn %s a $%d)) a)))", name, name, v))
		}
	}
}

// repeated n times s, with one blank ahead of each.
func repeated(n int, s string) string { return strings.Repeat(" "+s, n) }

func withBehaviours(n int) string {
	return "(code" + repeated(n, "(beh a (on a a () a))") + ")"
}

func withClauses(n int) string {
	return "(code (beh a" + repeated(n, "(on a a () a)") + "))"
}

func withActs(n int) string {
	return "(code (beh a (on a a (" + strings.TrimPrefix(repeated(n, "(stop)"), " ") + ") a)))"
}

func TestHowManyThereMayBe(t *testing.T) {
	for n := 1; n <= 7; n++ {
		if l := wantProgram(t, withBehaviours(n)); len(l) != n {
			t.Error(n, "behaviours", l)
		}
	}
	for n := 1; n <= 6; n++ {
		if l := wantProgram(t, withClauses(n)); len(l[0].Clauses) != n {
			t.Error(n, "clauses", l)
		}
	}
	for n := 0; n <= 8; n++ {
		if l := wantProgram(t, withActs(n)); len(l[0].Clauses[0].Acts) != n {
			t.Error(n, "acts", l)
		}
	}
}
