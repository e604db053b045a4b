package code_test

import (
	"math"
	"reflect"
	"testing"

	"heapmail/api"
	"heapmail/code"
	"heapmail/term"
)

// wantRefused: l is refused with that error, and nothing is told beside it.
func wantRefused(t *testing.T, name any, l []api.Behaviour, want api.Errno) {
	t.Helper()
	if x, e := code.To(l); e != want || !reflect.DeepEqual(x, api.Term{}) {
		t.Error(name, x, e, "want", want)
	}
}

// program tells one of that many behaviours, clauses in each, and acts in each clause.
func program(behaviours, clauses, acts int) []api.Behaviour {
	a := api.Term{Kind: api.KAtom, Name: "a"}
	var out []api.Behaviour
	for range behaviours {
		b := api.Behaviour{Name: "a"}
		for range clauses {
			c := api.Clause{State: a, Message: a, Next: a}
			for range acts {
				c.Acts = append(c.Acts, api.Act{Kind: api.AStop})
			}
			b.Clauses = append(b.Clauses, c)
		}
		out = append(out, b)
	}
	return out
}

func TestHowManyMayBeTold(t *testing.T) {
	for behaviours := range 10 {
		for clauses := range 9 {
			for acts := range 11 {
				l := program(behaviours, clauses, acts)
				name := []int{behaviours, clauses, acts}
				// The sizes of the tuples: code's, each beh's, each on's with that of its acts, and each act's.
				size := 2 + behaviours*(1+3+clauses*(1+6+1+acts*(1+2)))
				switch {
				case behaviours < 1 || behaviours > 7 || clauses < 1 || clauses > 6 || acts > 8:
					wantRefused(t, name, l, api.ErrForm)
				case size > 200:
					wantRefused(t, name, l, api.ErrLarge)
				default:
					if x, e := code.To(l); e != api.OK || text(x) != written(l) || term.Size(x) != size {
						t.Error(name, text(x), term.Size(x), size, e)
					}
				}
			}
		}
	}
	wantRefused(t, "no list", nil, api.ErrForm)
	wantRefused(t, "an empty list", []api.Behaviour{}, api.ErrForm)
	wantRefused(t, "very many behaviours", program(1<<12, 1, 0), api.ErrForm)
	wantRefused(t, "very many clauses", program(1, 1<<12, 0), api.ErrForm)
	wantRefused(t, "very many acts", program(1, 1, 1<<12), api.ErrForm)
	l := program(7, 1, 0)
	l[6].Clauses = nil
	wantRefused(t, "no clauses in the last one", l, api.ErrForm)
}

func TestNamesOfBehaviours(t *testing.T) {
	for name, want := range map[string]api.Errno{
		"a": api.OK, "abcdefgz": api.OK, "code": api.OK,
		"": api.ErrForm, "abcdefghi": api.ErrForm, "A": api.ErrForm, "a b": api.ErrForm, "a1": api.ErrForm, "_": api.ErrForm, "$0": api.ErrForm, "()": api.ErrForm, "a\x00": api.ErrForm, "ä": api.ErrForm,
	} {
		for i := range 3 {
			l := program(3, 1, 0)
			l[i].Name = name
			if x, e := code.To(l); e != want || (e == api.OK && text(x) != written(l)) {
				t.Error(name, text(x), e)
			}
		}
	}
}

// TestEveryAct: all acts of some Kinds, terms, names and numbers, by what the document says that each Kind has.
func TestEveryAct(t *testing.T) {
	one := []api.Term{num(1)}
	nothings := []api.Term{{}, {Args: []api.Term{}}}
	terms := []api.Term{read(t, "_"), read(t, "(a $0)")}
	ill := []api.Term{{Kind: 7}, {N: 1}, {Name: "a"}, {Args: one}, {Kind: api.KAtom}}
	all := append(append(append([]api.Term(nil), nothings...), terms...), ill...)
	has := map[int]struct{ to, what, name bool }{api.ASend: {to: true, what: true}, api.ASpawn: {what: true, name: true}, api.ALink: {to: true}, api.AStop: {}}
	fitting := func(i int, wanted bool) bool {
		return wanted && 2 <= i && i < 4 || !wanted && i < 2
	}
	told := 0
	for _, kind := range []int{math.MinInt, -1, 0, 1, 2, 3, 4, 5, 6, math.MaxInt} {
		for i, to := range all {
			for k, what := range all {
				for _, name := range []string{"", "a", "abcdefgh", "abcdefghi", "A"} {
					for _, v := range []int{math.MinInt, -1, 0, 1, 3, 4, math.MaxInt} {
						a := api.Act{Kind: kind, To: to, What: what, Name: name, Var: v}
						l := program(1, 1, 2)
						l[0].Clauses[0].Acts[1] = a
						h, isKind := has[kind]
						named := name == "a" || name == "abcdefgh"
						if !isKind || !fitting(i, h.to) || !fitting(k, h.what) || h.name != named || (!h.name && (name != "" || v != 0)) || v < 0 || v > 3 {
							wantRefused(t, a, l, api.ErrForm)
							continue
						}
						told++
						if x, e := code.To(l); e != api.OK || text(x) != written(l) {
							t.Error(a, text(x), e)
						}
					}
				}
			}
		}
	}
	if told != 2*2+2*2*2*3+2*2+2*2 {
		t.Error(told)
	}
}

// places tells where the terms of a clause of three acts lie, and how many tuples are about each.
func places(c *api.Clause) map[*api.Term]int {
	c.Acts = []api.Act{{Kind: api.ASend, To: num(1), What: num(1)}, {Kind: api.ASpawn, Name: "a", What: num(1)}, {Kind: api.ALink, To: num(1)}}
	return map[*api.Term]int{&c.State: 3, &c.Message: 3, &c.Next: 3, &c.Acts[0].To: 5, &c.Acts[0].What: 5, &c.Acts[1].What: 5, &c.Acts[2].To: 5}
}

func TestTermsWithinAreChecked(t *testing.T) {
	l := program(2, 2, 0)
	for place, about := range places(&l[1].Clauses[1]) {
		for _, x := range []api.Term{{}, {Kind: 7}, num(1<<40 + 1), {Kind: api.KVar, N: 4}, {Kind: api.KAny, N: 1}, tup(api.Term{}), tup(make([]api.Term, 9)...), nest(1<<14, api.Term{})} {
			*place = x
			wantRefused(t, about, l, api.ErrForm)
		}
		for depth, want := range map[int]api.Errno{12 - about: api.OK, 13 - about: api.ErrLarge, 1 << 14: api.ErrLarge} {
			*place = nest(depth, num(1))
			if x, e := code.To(l); e != want || (e == api.OK && text(x) != written(l)) {
				t.Error(about, depth, text(x), e)
			}
		}
		*place = num(1)
		x, _ := code.To(l)
		rest := 200 - term.Size(x)
		for size, want := range map[int]api.Errno{rest: api.OK, rest + 1: api.ErrLarge} {
			*place = sized(size)
			if x, e := code.To(l); e != want || (e == api.OK && text(x) != written(l)) {
				t.Error(about, size, text(x), e)
			}
		}
		*place = num(1)
	}
}

// TestFormIsToldFirst: what isn't formed is told ahead of what is too large, wherever either is.
func TestFormIsToldFirst(t *testing.T) {
	l := program(7, 6, 8)
	wantRefused(t, "all that there may be", l, api.ErrLarge)
	last := &l[6].Clauses[5]
	last.Acts[7].Var = 1
	wantRefused(t, "large, an act with too much", l, api.ErrForm)
	last.Acts[7] = api.Act{}
	wantRefused(t, "large, an act without a kind", l, api.ErrForm)
	last.Acts[7] = api.Act{Kind: api.ALink}
	wantRefused(t, "large, an act without a term", l, api.ErrForm)
	last.Acts[7] = api.Act{Kind: api.AStop}
	last.Next = api.Term{}
	wantRefused(t, "large, a clause without a term", l, api.ErrForm)
	last.Next = num(1)
	wantRefused(t, "large", l, api.ErrLarge)
	l[6].Name = ""
	wantRefused(t, "large, one without a name", l, api.ErrForm)
	deep := program(2, 1, 0)
	deep[0].Clauses[0].State = nest(10, num(1))
	wantRefused(t, "deep", deep, api.ErrLarge)
	deep[1].Clauses[0].Acts = make([]api.Act, 9)
	wantRefused(t, "deep, too many acts behind", deep, api.ErrForm)
}
