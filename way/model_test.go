package way_test

import (
	"fmt"
	"math/rand"
	"testing"

	"heapmail/api"
	"heapmail/term"
	"heapmail/way"
)

// sent is a message on its way.
type sent struct {
	a, b int
	text string
}

// model of ways: all that was sent and isn't taken yet, in one row.
type model []sent

func (m model) many(a, b int) int {
	n := 0
	for _, s := range m {
		if s.a == a && s.b == b {
			n++
		}
	}
	return n
}

func (m *model) send(a, b int, x api.Term) api.Errno {
	switch e := term.Check(x); {
	case a < 1 || a > 99 || b < 1 || b > 99:
		return api.ErrArg
	case e != api.OK:
		return e
	case !term.Closed(x):
		return api.ErrForm
	case m.many(a, b) == 20:
		return api.ErrLarge
	}
	*m = append(*m, sent{a, b, text(x)})
	return api.OK
}

func (m *model) take(a, b int) (string, api.Errno) {
	for i, s := range *m {
		if s.a == a && s.b == b {
			*m = append(append(model(nil), (*m)[:i]...), (*m)[i+1:]...)
			return s.text, api.OK
		}
	}
	return "", api.ErrNone
}

// all tells what ways tells, by going through all there may be.
func (m model) all(numbers []int) string {
	s, between := "", ""
	for _, a := range numbers {
		for _, b := range numbers {
			if n := m.many(a, b); n > 0 {
				s += fmt.Sprintf("%s%d>%d:%d", between, a, b, n)
				between = " "
			}
		}
	}
	return s
}

func randomTerm(r *rand.Rand, depth int) api.Term {
	switch n := r.Intn(12); {
	case n < 4:
		return num(r.Intn(1000))
	case n < 6:
		return api.Term{Kind: api.KPid, N: r.Intn(100)}
	case n < 8 || depth == 0:
		return api.Term{Kind: api.KAtom, Name: "abcdefghi"[:1+r.Intn(9)]}
	case n == 8 && r.Intn(8) == 0:
		return api.Term{Kind: api.KAny}
	}
	x := tup()
	for range r.Intn(7) {
		x.Args = append(x.Args, randomTerm(r, depth-1))
	}
	return x
}

// one call of w, of which the model must tell the same.
func (m *model) one(t *testing.T, r *rand.Rand, w *way.Ways, numbers []int, sends int) string {
	a, b := numbers[r.Intn(len(numbers))], numbers[r.Intn(len(numbers))]
	if r.Intn(30) == 0 {
		a = r.Intn(2) * 100
	}
	if r.Intn(10) < sends {
		x := randomTerm(r, r.Intn(5))
		want := m.send(a, b, x)
		if e := w.Send(a, b, x); e != want {
			t.Fatal("Send", a, b, text(x), e, want)
		}
		return fmt.Sprint("send ", want)
	}
	want, wanted := m.take(a, b)
	x, e := w.Take(a, b)
	if e != wanted || (e == api.OK && text(x) != want) || (e != api.OK && !isZero(x)) {
		t.Fatal("Take", a, b, text(x), e, want, wanted)
	}
	return fmt.Sprint("take ", wanted)
}

// TestAgainstModel does many calls, among few processes and many, with more coming than going and the other way round.
func TestAgainstModel(t *testing.T) {
	happened := map[string]int{}
	for seed := range int64(60) {
		r := rand.New(rand.NewSource(seed))
		numbers := [][]int{{7}, {1, 99}, {1, 2, 10, 11, 99}, {3, 4, 5, 6, 7, 8, 20, 30, 50, 98}}[seed%4]
		w, m := way.New(), &model{}
		for i := range 600 {
			happened[m.one(t, r, w, numbers, []int{8, 3, 6}[i/200])]++
			if got, want := ways(w), m.all(numbers); got != want {
				t.Fatalf("%q, wanted %q", got, want)
			}
		}
	}
	for _, s := range []string{"send 0", "send 1", "send 2", "send 5", "take 0", "take 4"} {
		if happened[s] < 50 {
			t.Error("too few for this to say much", s, happened)
		}
	}
}
