package heap_test

import (
	"math/rand"
	"testing"

	"heapmail/api"
	"heapmail/heap"
	"heapmail/term"
)

// node of the model: a tuple that stands, and that others may share.
type node struct{ parts []value }

// value of the model: a node, or a small term's text.
type value struct {
	tuple *node
	text  string
}

func (v value) String() string {
	if v.tuple == nil {
		return v.text
	}
	s := "("
	for i, p := range v.tuple.parts {
		if i > 0 {
			s += " "
		}
		s += p.String()
	}
	return s + ")"
}

// sizes tells how large and how deep it is, what is shared counted each time.
func (v value) sizes() (size, depth int) {
	if v.tuple == nil {
		return 0, 0
	}
	size = 1 + len(v.tuple.parts)
	for _, p := range v.tuple.parts {
		n, d := p.sizes()
		size, depth = size+n, max(depth, d)
	}
	return size, depth + 1
}

// reach adds the nodes that one comes to.
func (v value) reach(seen map[*node]int) {
	if v.tuple == nil || seen[v.tuple] != 0 {
		return
	}
	seen[v.tuple] = 1 + len(v.tuple.parts)
	for _, p := range v.tuple.parts {
		p.reach(seen)
	}
}

// valueOf a term, with new nodes.
func valueOf(x api.Term) value {
	if x.Kind != api.KTuple {
		s, _ := term.Print(x)
		return value{text: s}
	}
	n := &node{}
	for _, a := range x.Args {
		n.parts = append(n.parts, valueOf(a))
	}
	return value{tuple: n}
}

// model of a heap: what the words that were told stand for.
type model struct {
	t      *testing.T
	r      *rand.Rand
	h      *heap.Heap
	room   int
	used   int
	words  []api.Word
	values []value
}

func (m *model) told(w api.Word, v value) {
	m.words = append(m.words, w)
	m.values = append(m.values, v)
}

func randomTerm(r *rand.Rand, depth int) api.Term {
	switch n := r.Intn(6); {
	case n == 0:
		return api.Term{Kind: api.KInt, N: r.Intn(7) - 3}
	case n == 1:
		return api.Term{Kind: api.KPid, N: 1 + r.Intn(99)}
	case n == 2 || depth == 0:
		return api.Term{Kind: api.KAtom, Name: string("abcdefgh"[r.Intn(8)]) + "x"}
	}
	x := api.Term{Kind: api.KTuple}
	for range r.Intn(5) {
		x.Args = append(x.Args, randomTerm(r, depth-1))
	}
	return x
}

func (m *model) put() {
	x := randomTerm(m.r, m.r.Intn(5))
	v := valueOf(x)
	size, depth := v.sizes()
	want := api.OK
	if size > api.MaxSize || depth > api.MaxDepth {
		want = api.ErrLarge
	} else if m.used+size > m.room {
		want = api.ErrFull
	}
	w, e := m.h.Put(x)
	if e != want {
		m.t.Fatal("Put", v, e, want)
	}
	if e == api.OK {
		m.used += size
		m.told(w, v)
	}
}

// some words that stand, and their values.
func (m *model) some(n int) ([]api.Word, []value) {
	var l []api.Word
	var vs []value
	for range n {
		if len(m.words) > 0 {
			i := m.r.Intn(len(m.words))
			l, vs = append(l, m.words[i]), append(vs, m.values[i])
		}
	}
	return l, vs
}

func (m *model) join() {
	l, vs := m.some(m.r.Intn(10))
	v := value{tuple: &node{parts: vs}}
	size, depth := v.sizes()
	want := api.OK
	switch {
	case len(l) > api.MaxArgs:
		want = api.ErrArg
	case m.used+1+len(l) > m.room:
		want = api.ErrFull
	case size > api.MaxSize || depth > api.MaxDepth:
		want = api.ErrLarge
	}
	w, e := m.h.Join(l)
	if e != want {
		m.t.Fatal("Join", v, e, want)
	}
	if e == api.OK {
		m.used += 1 + len(l)
		m.told(w, v)
	}
}

func (m *model) live() {
	l, vs := m.some(m.r.Intn(6))
	if n, e := m.h.Live(l); e != api.OK || n != reached(vs) {
		m.t.Fatal("Live", vs, n, e, reached(vs))
	}
}

func reached(vs []value) int {
	seen := map[*node]int{}
	for _, v := range vs {
		v.reach(seen)
	}
	n := 0
	for _, words := range seen {
		n += words
	}
	return n
}

func (m *model) collect() {
	l, vs := m.some(m.r.Intn(12))
	got, e := m.h.Collect(l)
	if e != api.OK || len(got) != len(l) {
		m.t.Fatal("Collect", l, got, e)
	}
	m.words, m.values, m.used = nil, nil, reached(vs)
	for i, w := range got {
		m.told(w, vs[i])
	}
}

// check that each word stands for what it should, that one tuple has one word, and one word one tuple.
func (m *model) check() {
	if n := m.h.Used(); n != m.used {
		m.t.Fatal("Used", n, m.used)
	}
	nodes, words := map[api.Word]*node{}, map[*node]api.Word{}
	for i, w := range m.words {
		v := m.values[i]
		x, e := m.h.Get(w)
		s, _ := term.Print(x)
		if e != api.OK || s != v.String() {
			m.t.Fatal("Get", w, s, e, v)
		}
		if v.tuple == nil {
			continue
		}
		if n := nodes[w]; n != nil && n != v.tuple {
			m.t.Fatal("one word of two tuples", w, v)
		}
		if u, ok := words[v.tuple]; ok && u != w {
			m.t.Fatal("two words of one tuple", u, w, v)
		}
		nodes[w], words[v.tuple] = v.tuple, w
	}
}

// TestAgainstModel does many calls, in any order, in heaps of all rooms, and with words of no meaning between.
func TestAgainstModel(t *testing.T) {
	for seed := range int64(150) {
		r := rand.New(rand.NewSource(seed))
		room := []int{0, 1, 5, 20, 60, 300, 1000}[seed%7]
		h := made(t, room)
		m := &model{t: t, r: r, h: h, room: room}
		for range 300 {
			switch n := r.Intn(20); {
			case n < 8:
				m.put()
			case n < 15:
				m.join()
			case n < 17:
				m.live()
			case n < 18:
				m.collect()
			default:
				m.strange()
			}
			m.check()
		}
	}
}

// strange hands in words of which nothing is said: the calls must end, and not change what others stand for.
func (m *model) strange() {
	w := api.Word{Kind: m.r.Intn(9) - 1, N: m.r.Intn(1100) - 50}
	m.h.Get(w)
	m.h.Live([]api.Word{w})
	if _, e := m.h.Join([]api.Word{w, w}); e == api.OK {
		m.used += 3
	}
}
