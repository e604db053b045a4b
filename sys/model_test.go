package sys_test

import (
	"fmt"
	"math/rand"
	"slices"
	"sort"
	"strings"
	"testing"

	"heapmail/api"
	"heapmail/code"
	"heapmail/match"
	"heapmail/reckon"
	"heapmail/sys"
	"heapmail/term"
)

// member of a model: a process without a heap, just with a bound on what it has.
type member struct {
	name  string
	state api.Term
	mail  []api.Term
}

func (p *member) size() int {
	n := term.Size(p.state)
	for _, m := range p.mail {
		n += term.Size(m)
	}
	return n
}

// letter that is on its way.
type letter struct {
	a, b int
	what api.Term
}

// model of a system: all letters stand in one row, all pairs in one list, and each event is a text.
type model struct {
	program []api.Behaviour
	room    int
	members []*member // by their numbers, from 1 on: nil, where one isn't alive
	letters []letter
	pairs   [][2]int
	events  []string
	seen    map[string]int
}

func (m *model) tell(what string, a, b int, t string) {
	m.events = append(m.events, fmt.Sprintf("%s %d %d %s", what, a, b, t))
}

func (m *model) member(n int) *member {
	if n < 1 || n > len(m.members) {
		return nil
	}
	return m.members[n-1]
}

func (m *model) alive() []int {
	var l []int
	for i, p := range m.members {
		if p != nil {
			l = append(l, i+1)
		}
	}
	return l
}

// places tells whether there may be n more.
func (m *model) places(n int) bool {
	few, young := len(m.alive())+n < 13, len(m.members)+n < 91
	m.seen[fmt.Sprint("places for ", min(n, 2), " ", few, " ", young)]++
	return few && young
}

// refusal of one with that name and state.
func (m *model) refusal(name string, state api.Term) api.Errno {
	switch e := term.Check(state); {
	case !slices.ContainsFunc(m.program, func(b api.Behaviour) bool { return b.Name == name }):
		return api.ErrNone
	case e != api.OK:
		return e
	case !term.Closed(state):
		return api.ErrForm
	case term.Size(state) > m.room:
		return api.ErrFull
	}
	return api.OK
}

func (m *model) add(by int, name string, state api.Term) {
	m.members = append(m.members, &member{name: name, state: state})
	m.tell("spawn", by, len(m.members), text(state))
}

func (m *model) start(name string, state api.Term) (int, api.Errno) {
	if !m.places(1) {
		return 0, api.ErrLarge
	}
	if e := m.refusal(name, state); e != api.OK {
		return 0, e
	}
	m.add(0, name, state)
	return len(m.members), api.OK
}

func (m *model) many(a, b int) int {
	n := 0
	for _, x := range m.letters {
		if x.a == a && x.b == b {
			n++
		}
	}
	return n
}

// with tells who is in a pair with x, rising.
func (m *model) with(x int) []int {
	var l []int
	for _, p := range m.pairs {
		if p[0] == x && !slices.Contains(l, p[1]) {
			l = append(l, p[1])
		}
	}
	sort.Ints(l)
	return l
}

func (m *model) end(x, how int) {
	gone := []int{x}
	for i := 0; i < len(gone) && how != api.EStop; i++ {
		for _, y := range m.with(gone[i]) {
			if !slices.Contains(gone, y) {
				gone = append(gone, y)
			}
		}
	}
	for i, y := range gone {
		m.members[y-1] = nil
		m.tell("end", y, []int{how, api.ELink}[min(i, 1)], "-")
	}
	m.pairs = slices.DeleteFunc(m.pairs, func(p [2]int) bool { return slices.Contains(gone, p[0]) || slices.Contains(gone, p[1]) })
	m.seen[fmt.Sprint("end ", how, " with ", min(len(gone)-1, 2))]++
}

func (m *model) deliver(a, b int, t api.Term) {
	p := m.member(b)
	switch {
	case len(p.mail) >= 20:
		m.tell("lost", a, b, text(t))
		m.seen[fmt.Sprint("mailbox is full, from ", min(a, 1))]++
	case p.size()+term.Size(t) > m.room:
		m.end(b, api.EFull)
	default:
		p.mail = append(p.mail, t)
	}
}

func (m *model) do(x api.Happens) api.Errno {
	switch x.Kind {
	case 1:
		return m.run(x.A)
	case 2:
		i := slices.IndexFunc(m.letters, func(l letter) bool { return l.a == x.A && l.b == x.B })
		if i < 0 {
			return api.ErrNone
		}
		l := m.letters[i]
		m.letters = slices.Delete(m.letters, i, i+1)
		if m.member(x.B) == nil {
			m.tell("lost", x.A, x.B, text(l.what))
			m.seen["to nobody"]++
			return api.OK
		}
		m.deliver(x.A, x.B, l.what)
		return api.OK
	case 3:
		e := term.Check(x.Message)
		switch {
		case m.member(x.A) == nil:
			return api.ErrNone
		case e != api.OK:
			return e
		case !term.Closed(x.Message):
			return api.ErrForm
		}
		m.deliver(0, x.A, x.Message)
		return api.OK
	}
	return api.ErrArg
}

// choose the message and the clause of p, and what is bound.
func (m *model) choose(p *member) (int, api.Clause, []api.Term) {
	free := slices.Repeat([]api.Term{{Kind: api.KAny}}, 4)
	for i, message := range p.mail {
		for _, b := range m.program {
			if b.Name != p.name {
				continue
			}
			for _, c := range b.Clauses {
				if bound, ok, _ := match.Fits(tup(c.State, c.Message), tup(p.state, message), free); ok {
					return i, c, bound
				}
			}
			break
		}
	}
	return -1, api.Clause{}, nil
}

// outcome of a clause: what would be done, if all goes well.
type outcome struct {
	spawns []member
	sends  []letter
	links  []int
	stops  bool
	next   api.Term
}

// bad is thrown where something can't be.
type bad struct{}

func (m *model) outcome(a int, c api.Clause, bound []api.Term) (o outcome, ok bool) {
	defer func() {
		switch thrown := recover(); thrown {
		case nil:
		case bad{}:
			o, ok = outcome{}, false
		default:
			panic(thrown)
		}
	}()
	value := func(x api.Term) api.Term {
		v, e := reckon.Value(x, bound, a)
		if e != api.OK {
			panic(bad{})
		}
		return v
	}
	pid := func(x api.Term) int {
		v := value(x)
		if v.Kind != api.KPid {
			panic(bad{})
		}
		return v.N
	}
	for _, x := range c.Acts {
		switch x.Kind {
		case api.ASend:
			o.sends = append(o.sends, letter{a, pid(x.To), value(x.What)})
		case api.ASpawn:
			o.spawns = append(o.spawns, member{name: x.Name, state: value(x.What)})
			if bound[x.Var].Kind != api.KAny {
				panic(bad{})
			}
			bound[x.Var] = api.Term{Kind: api.KPid, N: len(m.members) + len(o.spawns)}
		case api.ALink:
			o.links = append(o.links, pid(x.To))
		case api.AStop:
			o.stops = true
		}
	}
	o.next = value(c.Next)
	return o, true
}

func (m *model) run(a int) api.Errno {
	p := m.member(a)
	if p == nil {
		return api.ErrNone
	}
	i, c, bound := m.choose(p)
	if i < 0 {
		return api.ErrNone
	}
	m.tell("take", a, 0, text(p.mail[i]))
	p.mail = slices.Delete(slices.Clone(p.mail), i, i+1)
	o, ok := m.outcome(a, c, bound)
	if !ok {
		m.end(a, api.EBad)
		return api.OK
	}
	if p.state = o.next; p.size() > m.room {
		m.end(a, api.EFull)
		return api.OK
	}
	if e := m.spawnRefusal(o.spawns); e != api.OK {
		m.seen[fmt.Sprint("spawn refused ", e)]++
		m.end(a, api.EBad)
		return api.OK
	}
	m.follow(a, o)
	return api.OK
}

func (m *model) spawnRefusal(l []member) api.Errno {
	if !m.places(len(l)) {
		return api.ErrLarge
	}
	for _, x := range l {
		if e := m.refusal(x.name, x.state); e != api.OK {
			return e
		}
	}
	return api.OK
}

func (m *model) follow(a int, o outcome) {
	for _, x := range o.spawns {
		m.add(a, x.name, x.state)
	}
	for _, x := range o.sends {
		if m.many(x.a, x.b) == 20 {
			m.tell("lost", x.a, x.b, text(x.what))
			m.seen["way is full"]++
			continue
		}
		m.letters = append(m.letters, x)
		m.tell("send", x.a, x.b, text(x.what))
	}
	for _, b := range o.links {
		if b != a && m.member(b) != nil {
			m.pairs = append(m.pairs, [2]int{a, b}, [2]int{b, a})
		}
	}
	if o.stops {
		m.end(a, api.EStop)
	}
}

// all that is told but the events, as of a system.
func (m *model) all() string {
	var procs, ways []string
	for _, n := range m.alive() {
		p := m.member(n)
		s := fmt.Sprintf("%d: %s %s:", n, p.name, text(p.state))
		for _, x := range p.mail {
			s += " " + text(x)
		}
		procs = append(procs, s)
	}
	letters := slices.Clone(m.letters)
	sort.Slice(letters, func(i, j int) bool { return letters[i].a*100+letters[i].b < letters[j].a*100+letters[j].b })
	for _, x := range letters {
		if s := fmt.Sprintf("%d>%d", x.a, x.b); !slices.Contains(ways, s) {
			ways = append(ways, s)
		}
	}
	return strings.Join(procs, "; ") + " | " + strings.Join(ways, " ")
}

func oneOf(r *rand.Rand, l ...string) string { return l[r.Intn(len(l))] }

// randomAct of a clause in which $1 is bound, perhaps, to a process.
func randomAct(r *rand.Rand, bound bool) string {
	to := oneOf(r, "#1", "#2", "(self)")
	if bound {
		to = oneOf(r, "$1", "$1", "$1", "(self)")
	}
	if r.Intn(30) == 0 {
		to = oneOf(r, "$0", "$1", "$2", "5", "#99")
	}
	what := oneOf(r, "x", "y", "(n (self))", "(n (self))", "((self) x)", "(put (self))", "5")
	switch n := r.Intn(15); {
	case n < 8:
		return "(send " + to + " " + what + ")"
	case n < 10:
		name := oneOf(r, "a", "b", "a", "b", "a", "b", "a", "b", "a", "b", "c")
		return "(spawn " + name + " " + oneOf(r, what, "s", "(s s s s)", "(s s s s)") + " " + oneOf(r, "$2", "$3") + ")"
	case n < 14:
		return "(link " + oneOf(r, to, to, to, "#3") + ")"
	}
	return "(stop)"
}

func randomClause(r *rand.Rand, message string) string {
	acts := ""
	for range r.Intn(4) {
		acts += randomAct(r, strings.Contains(message, "$1")) + " "
	}
	if r.Intn(5) == 0 {
		acts = "(spawn a s $2) " + acts + "(spawn b (s) $3)"
	}
	next := oneOf(r, "s", "s", "(s)", "5", "(add 1 1)", "(s (s s))", "(s s s s)")
	if r.Intn(20) == 0 {
		next = oneOf(r, "$1", "(add s 1)", "_")
	}
	return fmt.Sprintf("(on %s %s (%s) %s)", oneOf(r, "$0", "_", "_", "_", "_", "s"), message, acts, next)
}

func randomProgram(r *rand.Rand) []api.Behaviour {
	for {
		s := "(code"
		for _, name := range []string{"a", "b", "a"} {
			s += " (beh " + name + " " + randomClause(r, "(n $1)")
			for range r.Intn(3) {
				s += " " + randomClause(r, oneOf(r, "x", "y", "($1 x)", "_", "(n $1)"))
			}
			s += ")"
		}
		x, _, _ := term.Parse(s + ")")
		if l, e := code.From(x); e == api.OK {
			return l
		}
	}
}

// randomTerm is a message, or a state; processes are told of in it.
func randomTerm(r *rand.Rand, alive []int) api.Term {
	if r.Intn(40) == 0 {
		return []api.Term{{}, {Kind: api.KAny}, tup(api.Term{Kind: api.KVar}), wide()}[r.Intn(4)]
	}
	of := fmt.Sprint("#", max(1, alive[r.Intn(len(alive))]))
	s := "(n " + of + ")"
	if r.Intn(3) == 0 {
		s = oneOf(r, "x", "y", "("+of+" x)", "s", "()", "(1 2 3 4)")
	}
	x, _, _ := term.Parse(s)
	return x
}

// twins are a model, a system, and another one that is tidied now and then.
type twins struct {
	t       *testing.T
	r       *rand.Rand
	m       *model
	s, tidy *sys.System
	busy    [3]int // how often it is run, delivered, injected
	few     bool
}

// alive are those that are, and one that may be not. In some seeds there are just two of them, that have much to do.
func (w *twins) alive() []int {
	l := w.m.alive()
	if w.few {
		l = l[:min(2, len(l))]
	}
	return append(l, w.r.Intn(15))
}

func (w *twins) start() {
	name, state := oneOf(w.r, "a", "a", "a", "b", "b", "b", "c"), randomTerm(w.r, w.alive())
	n, e := w.m.start(name, state)
	w.m.seen[fmt.Sprint("start ", e)]++
	for _, s := range []*sys.System{w.s, w.tidy} {
		if got, f := s.Start(name, state); got != n || f != e {
			w.t.Fatal("Start", name, text(state), got, f, "wanted", n, e)
		}
	}
}

func (w *twins) happens() api.Happens {
	alive := w.alive()
	x := api.Happens{A: alive[w.r.Intn(len(alive))], B: alive[w.r.Intn(len(alive))], Message: randomTerm(w.r, alive)}
	n := w.r.Intn(w.busy[0] + w.busy[1] + w.busy[2])
	if len(w.m.letters) == 0 && w.r.Intn(10) > 0 {
		n = w.r.Intn(2) * (w.busy[0] + w.busy[1]) // there is nothing to deliver
	}
	switch {
	case w.r.Intn(100) == 0:
		x.Kind = []int{-1, 0, 4}[w.r.Intn(3)]
	case n < w.busy[0]:
		x.Kind = 1
		for i := 0; i < 5 && (w.m.member(x.A) == nil || len(w.m.member(x.A).mail) == 0); i++ {
			x.A = alive[w.r.Intn(len(alive))]
		}
	case n < w.busy[0]+w.busy[1]:
		x.Kind = 2
		if len(w.m.letters) > 0 && w.r.Intn(10) > 0 {
			l := w.m.letters[w.r.Intn(len(w.m.letters))]
			x.A, x.B = l.a, l.b
		}
	default:
		x.Kind = 3
	}
	return x
}

func (w *twins) do() {
	x := w.happens()
	e := w.m.do(x)
	w.m.seen[fmt.Sprint("do ", x.Kind, " ", e)]++
	for _, s := range []*sys.System{w.s, w.tidy} {
		if f := s.Do(x); f != e {
			w.t.Fatal("Do", x, f, "wanted", e)
		}
	}
}

func (w *twins) check() {
	if w.r.Intn(3) == 0 {
		w.tidy.Tidy(w.r.Intn(15))
	}
	want, all := strings.Join(w.m.events, "; "), w.m.all()
	for _, s := range []*sys.System{w.s, w.tidy} {
		wantAll(w.t, s, all)
		if got := events(s, 0); got != want {
			w.t.Fatalf("events  %q\nwanted  %q", got, want)
		}
	}
	if w.t.Failed() {
		w.t.FailNow()
	}
}

// TestAgainstModel does many calls, with many programs, in heaps of all rooms, with all that is hurried or slow.
func TestAgainstModel(t *testing.T) {
	seen := map[string]int{}
	for seed := range int64(400) {
		r := rand.New(rand.NewSource(seed))
		l, room := randomProgram(r), []int{4, 11, 40, 400}[seed%4]
		m := &model{program: l, room: room, seen: seen}
		s, e := sys.New(l, room)
		tidy, f := sys.New(l, room)
		if e != api.OK || f != api.OK {
			t.Fatal(e, f)
		}
		w := &twins{t: t, r: r, m: m, s: s, tidy: tidy, busy: [][3]int{{4, 4, 2}, {5, 0, 5}, {1, 5, 5}}[seed%3], few: seed%5 < 2}
		calls := 200
		if seed%20 == 0 {
			calls = 1200 // so many that ninety processes come and go
		}
		for i := range calls {
			if w.r.Intn(1+len(m.alive())) == 0 || r.Intn(20) == 0 {
				w.start()
			} else {
				w.do()
			}
			if i%4 == 0 {
				w.check()
			}
		}
		w.check()
	}
	for _, s := range []string{
		"start 0", "start 2", "start 4", "start 5", "start 6", "do -1 1", "do 0 1", "do 4 1", "do 1 0", "do 1 4", "do 2 0", "do 2 4", "do 3 0", "do 3 2", "do 3 4", "do 3 5",
		"end 1 with 0", "end 2 with 0", "end 2 with 1", "end 2 with 2", "end 3 with 0", "end 3 with 1", "end 3 with 2", "spawn refused 2", "spawn refused 4", "spawn refused 6",
		"mailbox is full, from 0", "mailbox is full, from 1", "way is full", "to nobody",
		"places for 1 true false", "places for 1 false true", "places for 2 false true", "places for 2 true true",
	} {
		if seen[s] < 20 {
			t.Error("too few for this to say much", s, seen)
		}
	}
}
