package proc_test

import (
	"fmt"
	"math/rand"
	"testing"

	"heapmail/api"
	"heapmail/code"
	"heapmail/match"
	"heapmail/proc"
	"heapmail/reckon"
	"heapmail/term"
)

// model of a process: it has no heap, just a count of what one would use.
type model struct {
	state      api.Term
	mail       []api.Term
	used, room int
}

func (m *model) live() int {
	n := term.Size(m.state)
	for _, x := range m.mail {
		n += term.Size(x)
	}
	return n
}

// put tells whether there is room for that much, beside what is alive.
func (m *model) put(size, alive int) bool {
	if m.used+size > m.room {
		m.used = alive
	}
	if m.used+size > m.room {
		return false
	}
	m.used += size
	return true
}

func (m *model) deliver(x api.Term) api.Errno {
	switch e := term.Check(x); {
	case len(m.mail) == 20:
		return api.ErrLarge
	case e != api.OK:
		return e
	case !term.Closed(x):
		return api.ErrForm
	case !m.put(term.Size(x), m.live()):
		return api.ErrFull
	}
	m.mail = append(m.mail, x)
	return api.OK
}

// bad is thrown where something can't be reckoned.
type bad struct{}

func value(x api.Term, bound []api.Term) api.Term {
	v, e := reckon.Value(x, bound, 5)
	if e != api.OK {
		panic(bad{})
	}
	return v
}

func number(x api.Term, bound []api.Term) int {
	v := value(x, bound)
	if v.Kind != api.KPid {
		panic(bad{})
	}
	return v.N
}

// done tells what a clause comes to, and its next state: EBad, if that is thrown.
func done(c api.Clause, bound []api.Term) (x proc.Taken, next api.Term) {
	defer func() {
		switch thrown := recover(); thrown {
		case nil:
		case bad{}:
			x, next = proc.Taken{Fate: api.EBad}, api.Term{}
		default:
			panic(thrown)
		}
	}()
	for _, a := range c.Acts {
		switch a.Kind {
		case api.ASend:
			x.Sends = append(x.Sends, proc.Send{To: number(a.To, bound), What: value(a.What, bound)})
		case api.ASpawn:
			pid := 20 + len(x.Spawns)
			x.Spawns = append(x.Spawns, proc.Spawn{Pid: pid, Name: a.Name, State: value(a.What, bound)})
			if bound[a.Var].Kind != api.KAny {
				panic(bad{})
			}
			bound[a.Var] = api.Term{Kind: api.KPid, N: pid}
		case api.ALink:
			x.Links = append(x.Links, number(a.To, bound))
		case api.AStop:
			x.Fate = api.EStop
		}
	}
	return x, value(c.Next, bound)
}

func (m *model) step(clauses []api.Clause) (proc.Taken, api.Errno) {
	for i, message := range m.mail {
		for _, c := range clauses {
			free := api.Term{Kind: api.KAny}
			// One pair of the two fits the pair of the patterns just as one fits behind the other.
			bound, ok, e := match.Fits(tup(c.State, c.Message), tup(m.state, message), []api.Term{free, free, free, free})
			if e != api.OK {
				panic("the pair is too large")
			}
			if ok {
				m.mail = append(append([]api.Term(nil), m.mail[:i]...), m.mail[i+1:]...)
				return m.take(message, c, bound), api.OK
			}
		}
	}
	return proc.Taken{}, api.ErrNone
}

func (m *model) take(message api.Term, c api.Clause, bound []api.Term) proc.Taken {
	x, next := done(c, bound)
	if x.Fate != api.EBad {
		alive := m.live() - term.Size(m.state)
		if m.put(term.Size(next), alive) {
			m.state = next
		} else {
			x = proc.Taken{Fate: api.EFull}
			m.used = m.live()
		}
	}
	x.Message = message
	return x
}

// one of l.
func one(r *rand.Rand, l ...string) string { return l[r.Intn(len(l))] }

func randomAct(r *rand.Rand) string {
	to := one(r, "#1", "#9", "$0", "$1", "$2", "(self)", "$3")
	what := one(r, "a", "$0", "($0 $1)", "(n (add $1 1))", "(put (self))", "((self) $2)", "5")
	switch r.Intn(6) {
	case 0:
		return "(send " + to + " " + what + ")"
	case 1, 2:
		return "(spawn " + one(r, "b", "c") + " " + what + " " + one(r, "$1", "$2", "$3") + ")"
	case 3:
		return "(link " + one(r, to, "$2", "$3") + ")"
	case 4:
		return "(stop)"
	}
	return "(send #1 a)"
}

func randomClause(r *rand.Rand) string {
	acts := ""
	for range r.Intn(4) {
		acts += randomAct(r) + " "
	}
	return fmt.Sprintf("(on %s %s (%s) %s)",
		one(r, "$0", "$0", "_", "$1", "($0)", "($0 $1)", "($0 $0)", "a", "#1", "5"),
		one(r, "$0", "$1", "_", "($0)", "($0 $1)", "($1 $1)", "($0 ($1))", "(a $1)", "a", "#1", "5"),
		acts,
		one(r, "$0", "$1", "a", "5", "#1", "($0)", "($0 $1)", "($1 $1)", "($0 $0)", "(a (add $1 1))", "(1 2 3 4 5)", "()", "_", "($1 ($0))"))
}

func randomProgram(r *rand.Rand) []api.Behaviour {
	for {
		s := "(code (beh c (on _ _ ((stop)) wrong)) (beh a"
		for range 1 + r.Intn(5) {
			s += " " + randomClause(r)
		}
		x, _, _ := term.Parse(s + "))")
		if l, e := code.From(x); e == api.OK {
			return l
		}
	}
}

func randomMessage(r *rand.Rand, depth int) api.Term {
	switch n := r.Intn(9); {
	case n < 2:
		return api.Term{Kind: api.KAtom, Name: one(r, "a", "b")}
	case n < 4:
		return num(5 + r.Intn(2))
	case n < 6 || depth == 0:
		return api.Term{Kind: api.KPid, N: 1 + r.Intn(2)}
	case n == 6 && r.Intn(30) == 0:
		return api.Term{Kind: api.KAny}
	}
	x := tup()
	for range r.Intn(4) {
		x.Args = append(x.Args, randomMessage(r, depth-1))
	}
	return x
}

// twins are a model, a process, and another one that is tidied now and then.
type twins struct {
	t       *testing.T
	r       *rand.Rand
	m       *model
	p, tidy *proc.Proc
	seen    map[string]int
}

func (w *twins) deliver() {
	x := randomMessage(w.r, 3)
	want := w.m.deliver(x)
	w.seen[fmt.Sprint("deliver ", want)]++
	if e, f := w.p.Deliver(x), w.tidy.Deliver(x); e != want || f != want {
		w.t.Fatal("Deliver", text(x), e, f, want)
	}
}

func (w *twins) step(l []api.Behaviour) {
	want, e := w.m.step(l[1].Clauses)
	w.seen[fmt.Sprint("step ", e, " fate ", want.Fate)]++
	for _, p := range []*proc.Proc{w.p, w.tidy} {
		if x, f := p.Step(l, 5, 20); f != e || told(x) != told(want) {
			w.t.Fatalf("step: %q, error %d\nwanted %q, error %d", told(x), f, told(want), e)
		}
	}
}

// check that all three tell the same, and that the one that isn't tidied uses what it should.
func (w *twins) check() {
	want := "a: " + text(w.m.state) + ": " + texts(w.m.mail)
	if all(w.p) != want || all(w.tidy) != want || w.p.Used() != w.m.used {
		w.t.Fatalf("%q, %q, %d\nwanted %q, %d", all(w.p), all(w.tidy), w.p.Used(), want, w.m.used)
	}
	if w.r.Intn(3) == 0 {
		if w.tidy.Tidy(); w.tidy.Used() != w.m.live() {
			w.t.Fatal("Tidy", w.tidy.Used(), w.m.live())
		}
	}
}

// TestAgainstModel does many calls, with many programs, in heaps of all rooms.
func TestAgainstModel(t *testing.T) {
	seen := map[string]int{}
	for seed := range int64(400) {
		r := rand.New(rand.NewSource(seed))
		room := []int{0, 3, 6, 10, 15, 25, 60}[seed%7]
		w := &twins{t: t, r: r, m: &model{state: num(5), room: room}, p: made(t, "a", "5", "", room), tidy: made(t, "a", "5", "", room), seen: seen}
		for range 12 {
			l := randomProgram(r)
			for range 8 {
				if r.Intn(5) < 3 {
					w.deliver()
				} else {
					w.step(l)
				}
				w.check()
			}
		}
	}
	for _, s := range []string{"deliver 0", "deliver 2", "deliver 5", "deliver 6", "step 0 fate 0", "step 0 fate 1", "step 0 fate 2", "step 0 fate 3", "step 4 fate 0"} {
		if seen[s] < 50 {
			t.Error("too few for this to say much", s, seen)
		}
	}
}
