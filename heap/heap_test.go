package heap_test

import (
	"math"
	"slices"
	"strings"
	"testing"

	"heapmail/api"
	"heapmail/heap"
	"heapmail/term"
)

func made(t *testing.T, room int) *heap.Heap {
	t.Helper()
	h, e := heap.New(room)
	if e != api.OK || h == nil {
		t.Fatal("New", room, e)
	}
	return h
}

func read(t *testing.T, s string) api.Term {
	t.Helper()
	x, at, e := term.Parse(s)
	if e != api.OK {
		t.Fatal(s, at, e)
	}
	return x
}

func put(t *testing.T, h *heap.Heap, s string) api.Word {
	t.Helper()
	w, e := h.Put(read(t, s))
	if e != api.OK {
		t.Fatal("Put", s, e)
	}
	return w
}

func join(t *testing.T, h *heap.Heap, l ...api.Word) api.Word {
	t.Helper()
	w, e := h.Join(l)
	if e != api.OK {
		t.Fatal("Join", l, e)
	}
	return w
}

func collect(t *testing.T, h *heap.Heap, roots ...api.Word) []api.Word {
	t.Helper()
	l, e := h.Collect(roots)
	if e != api.OK || len(l) != len(roots) {
		t.Fatal("Collect", roots, l, e)
	}
	return l
}

func wantText(t *testing.T, h *heap.Heap, w api.Word, want string) {
	t.Helper()
	x, e := h.Get(w)
	if e != api.OK {
		t.Error("Get", w, e)
		return
	}
	if s, e := term.Print(x); e != api.OK || s != want {
		t.Error("Get", w, s, e, "want", want)
	}
}

func wantUsed(t *testing.T, h *heap.Heap, want int) {
	t.Helper()
	if n := h.Used(); n != want {
		t.Error("Used", n, "want", want)
	}
}

func wantLive(t *testing.T, h *heap.Heap, want int, roots ...api.Word) {
	t.Helper()
	if n, e := h.Live(roots); e != api.OK || n != want {
		t.Error("Live", roots, n, e, "want", want)
	}
}

func tupleAt(n int) api.Word { return api.Word{Kind: api.KTuple, N: n} }
func atomOf(n int) api.Word  { return api.Word{Kind: api.KAtom, N: n} }
func intOf(n int) api.Word   { return api.Word{Kind: api.KInt, N: n} }
func pidOf(n int) api.Word   { return api.Word{Kind: api.KPid, N: n} }

// begin tells how many places of a heap there are at which a tuple begins.
func begin(h *heap.Heap) int {
	n := 0
	for place := range api.MaxRoom {
		if _, e := h.Get(tupleAt(place)); e == api.OK {
			n++
		}
	}
	return n
}

// nested is a text with n tuples of one about s.
func nested(n int, s string) string {
	return strings.Repeat("(", n) + s + strings.Repeat(")", n)
}

func TestNew(t *testing.T) {
	for _, room := range []int{0, 1, 999, 1000} {
		wantUsed(t, made(t, room), 0)
	}
	for _, room := range []int{-1, 1001, math.MinInt, math.MaxInt} {
		if h, e := heap.New(room); e != api.ErrArg || h != nil {
			t.Error(room, h, e)
		}
	}
}

func TestPutOfWhatIsNoTuple(t *testing.T) {
	h := made(t, 0)
	for _, n := range []int{0, 7, -7, api.MaxInt, -api.MaxInt} {
		if w, e := h.Put(api.Term{Kind: api.KInt, N: n}); e != api.OK || w != intOf(n) {
			t.Error(n, w, e)
		}
	}
	for _, n := range []int{1, 99} {
		if w, e := h.Put(api.Term{Kind: api.KPid, N: n}); e != api.OK || w != pidOf(n) {
			t.Error(n, w, e)
		}
	}
	a := put(t, h, "abcdefgh")
	if a.Kind != api.KAtom {
		t.Error(a)
	}
	for s, w := range map[string]api.Word{"abcdefgh": a, "-3": intOf(-3), "#4": pidOf(4)} {
		wantText(t, h, w, s)
	}
	wantUsed(t, h, 0)
}

// TestNamesHaveOneNumber, however they come, and however often the heap was collected since.
func TestNamesHaveOneNumber(t *testing.T) {
	h := made(t, 100)
	texts := []string{"b", "a", "c", "abcdefgh", "abcdefg"}
	var words []api.Word
	for _, s := range texts {
		w := put(t, h, s)
		if w.Kind != api.KAtom || slices.Contains(words, w) {
			t.Error(s, w, words)
		}
		words = append(words, w)
	}
	inner := put(t, h, "(x (y a))")
	y := put(t, h, "y")
	collect(t, h)
	for i, s := range texts {
		if w := put(t, h, s); w != words[i] {
			t.Error(s, w, words[i])
		}
	}
	if put(t, h, "y") != y || slices.Contains(words, y) || inner.Kind != api.KTuple {
		t.Error("a name within a tuple", y, inner)
	}
}

func TestPutOfTuples(t *testing.T) {
	h := made(t, 1000)
	used := 0
	var words []api.Word
	texts := []string{"()", "(a)", "(a 5)", "((1) (1))", "(() () ())", "(a (b (c #9)) -4 a)", nested(12, ""), nested(11, "x")}
	for _, s := range texts {
		w := put(t, h, s)
		if w.Kind != api.KTuple || w.N < 0 || w.N >= 1000 || slices.Contains(words, w) {
			t.Error(s, w, words)
		}
		words = append(words, w)
		used += term.Size(read(t, s))
		wantUsed(t, h, used)
	}
	for i, s := range texts {
		wantText(t, h, words[i], s)
		wantLive(t, h, term.Size(read(t, s)), words[i])
	}
	if n := begin(h); n != 1+1+1+3+4+3+12+11 {
		t.Error("tuples begin", n)
	}
}

// TestPutSharesNone: not even within a term whose equal tuples are one list.
func TestPutSharesNone(t *testing.T) {
	h := made(t, 100)
	one := read(t, "(1)")
	w, e := h.Put(api.Term{Kind: api.KTuple, Args: []api.Term{one, one, one}})
	if e != api.OK {
		t.Fatal(e)
	}
	wantUsed(t, h, 4+3*2)
	wantLive(t, h, 4+3*2, w)
	again, _ := h.Put(one)
	once, _ := h.Put(one)
	if again == once {
		t.Error("shared", again)
	}
	wantUsed(t, h, 4+5*2)
}

func TestPutFillsTheRoom(t *testing.T) {
	h := made(t, 7)
	put(t, h, "(a 1)")
	put(t, h, "(() b)")
	wantUsed(t, h, 7)
	if w, e := h.Put(read(t, "()")); e != api.ErrFull || w != (api.Word{}) {
		t.Error(w, e)
	}
	put(t, h, "new")
	h = made(t, 6)
	if _, e := h.Put(read(t, "(a (b 2) 1)")); e != api.ErrFull {
		t.Error(e)
	}
	wantUsed(t, h, 0)
	put(t, h, "(a (b 2))")
	h = made(t, 1000)
	for range 1000 / 8 {
		put(t, h, "(1 2 3 4 5 6 7)")
	}
	if _, e := h.Put(read(t, "()")); e != api.ErrFull {
		t.Error(e)
	}
	wantUsed(t, h, 1000)
}

// TestPutErrorsInOrder: Check's, then ErrForm of what is open, then ErrFull.
func TestPutErrorsInOrder(t *testing.T) {
	open, large := read(t, "(a $0)"), read(t, nested(12, "1"))
	large.Args = []api.Term{{Kind: api.KTuple, Args: large.Args}}
	openLarge := api.Term{Kind: api.KTuple, Args: []api.Term{large, open}}
	cases := []struct {
		name string
		x    api.Term
		want api.Errno
	}{
		{"nothing", api.Term{}, api.ErrForm},
		{"kind 7", api.Term{Kind: 7}, api.ErrForm},
		{"great number", api.Term{Kind: api.KInt, N: api.MaxInt + 1}, api.ErrForm},
		{"pid 0", api.Term{Kind: api.KPid}, api.ErrForm},
		{"no name", api.Term{Kind: api.KAtom}, api.ErrForm},
		{"ill within", api.Term{Kind: api.KTuple, Args: []api.Term{{Kind: 9}}}, api.ErrForm},
		{"nine", api.Term{Kind: api.KTuple, Args: make([]api.Term, 9)}, api.ErrForm},
		{"deep", large, api.ErrLarge},
		{"deep and open", openLarge, api.ErrLarge},
		{"variable", read(t, "$0"), api.ErrForm},
		{"any", read(t, "_"), api.ErrForm},
		{"open", open, api.ErrForm},
		{"any within", read(t, "(1 (2 (_)))"), api.ErrForm},
		{"full", read(t, "()"), api.ErrFull},
	}
	h := made(t, 0)
	for _, c := range cases {
		if w, e := h.Put(c.x); e != c.want || w != (api.Word{}) {
			t.Error(c.name, w, e, "want", c.want)
		}
	}
	wantUsed(t, h, 0)
}

func TestJoin(t *testing.T) {
	h := made(t, 1000)
	a, b := put(t, h, "(a (b 2))"), put(t, h, "c")
	wantUsed(t, h, 6)
	w := join(t, h, a, b, a)
	wantUsed(t, h, 10)
	wantText(t, h, w, "((a (b 2)) c (a (b 2)))")
	wantLive(t, h, 10, w)
	v := join(t, h, w, intOf(-api.MaxInt), pidOf(99), w)
	wantUsed(t, h, 15)
	wantText(t, h, v, "(((a (b 2)) c (a (b 2))) -1099511627776 #99 ((a (b 2)) c (a (b 2))))")
	wantText(t, h, w, "((a (b 2)) c (a (b 2)))")
	none := join(t, h)
	wantText(t, h, none, "()")
	wantUsed(t, h, 16)
	if again := join(t, h); again == none {
		t.Error("the same", again)
	}
	wantText(t, h, join(t, h, b, b, b, b, b, b, b, b), "(c c c c c c c c)")
	wantUsed(t, h, 26)
}

// TestJoinOfAWordWithin: a word that is in a tuple of one that stands does stand.
func TestJoinOfAWordWithin(t *testing.T) {
	h := made(t, 100)
	w := put(t, h, "(a (b 2))")
	for place := range 6 {
		if x, e := h.Get(tupleAt(place)); e == api.OK && tupleAt(place) != w {
			wantText(t, h, tupleAt(place), "(b 2)")
			wantText(t, h, join(t, h, tupleAt(place)), "((b 2))")
			wantUsed(t, h, 8)
			wantLive(t, h, 3, tupleAt(place))
			return
		} else if e == api.OK && len(x.Args) != 2 {
			t.Error(place, x)
		}
	}
	t.Error("no tuple within")
}

// notStanding are words that stand for no term in a heap with the names that were put, and tuples in its first places.
func notStanding(h *heap.Heap, names int) []api.Word {
	return []api.Word{
		{}, {N: 1}, {Kind: -1}, {Kind: api.KVar}, {Kind: api.KVar, N: 1}, {Kind: api.KAny}, {Kind: 7}, {Kind: math.MaxInt}, {Kind: math.MinInt},
		intOf(api.MaxInt + 1), intOf(-api.MaxInt - 1), intOf(math.MaxInt), intOf(math.MinInt),
		pidOf(0), pidOf(-1), pidOf(100), pidOf(math.MaxInt), pidOf(math.MinInt),
		atomOf(-1), atomOf(names + 1), atomOf(math.MaxInt), atomOf(math.MinInt),
		tupleAt(-1), tupleAt(h.Used()), tupleAt(h.Used() + 1), tupleAt(1000), tupleAt(math.MaxInt), tupleAt(math.MinInt),
	}
}

func TestWordsThatStandForNone(t *testing.T) {
	for _, s := range []string{"(a 5)", "()", "a"} {
		h := made(t, 40)
		w := put(t, h, s)
		used := h.Used()
		for _, bad := range notStanding(h, 1) {
			if x, e := h.Get(bad); e != api.ErrArg || x.Kind != 0 || x.N != 0 || x.Name != "" || x.Args != nil {
				t.Error("Get", bad, x, e)
			}
			for _, l := range [][]api.Word{{bad}, {w, bad}, {bad, w}, {w, w, w, w, w, w, w, bad}} {
				if v, e := h.Join(l); e != api.ErrArg || v != (api.Word{}) {
					t.Error("Join", l, v, e)
				}
				if n, e := h.Live(l); e != api.ErrArg || n != 0 {
					t.Error("Live", l, n, e)
				}
				if v, e := h.Collect(l); e != api.ErrArg || v != nil {
					t.Error("Collect", l, v, e)
				}
			}
		}
		wantUsed(t, h, used)
		wantText(t, h, w, s)
	}
}

// TestWhereNoTupleBegins: between the first place of one and that of the next there is none, whatever the parts are.
func TestWhereNoTupleBegins(t *testing.T) {
	h := made(t, 100)
	first := put(t, h, "(0 1 2 3 4 5 6 7)")
	last := put(t, h, "(a b #1 #2 -1 () (3))")
	want := map[string]int{"(0 1 2 3 4 5 6 7)": 1, "(a b #1 #2 -1 () (3))": 1, "()": 1, "(3)": 1}
	for place := -10; place < 120; place++ {
		x, e := h.Get(tupleAt(place))
		if e != api.OK {
			if e != api.ErrArg {
				t.Error(place, e)
			}
			continue
		}
		s, _ := term.Print(x)
		want[s]--
	}
	for s, n := range want {
		if n != 0 {
			t.Error(s, n)
		}
	}
	if first == last {
		t.Error(first)
	}
}

// TestNumbersOfNoName: as many numbers of atoms stand as names were put.
func TestNumbersOfNoName(t *testing.T) {
	h := made(t, 100)
	for names, s := range []string{"1", "a", "(b a)", "c", "(d e c)"} {
		put(t, h, s)
		want := []int{0, 1, 2, 3, 5}[names]
		n := 0
		for number := -20; number < 20; number++ {
			if _, e := h.Get(atomOf(number)); e == api.OK {
				n++
			}
		}
		if n != want {
			t.Error(s, n, "want", want)
		}
	}
}

func TestJoinErrorsInOrder(t *testing.T) {
	h := made(t, 3)
	w := put(t, h, "(1 2)")
	bad := api.Word{}
	one := intOf(1)
	cases := []struct {
		name string
		l    []api.Word
		want api.Errno
	}{
		{"nine that stand", []api.Word{one, one, one, one, one, one, one, one, one}, api.ErrArg},
		{"very many", make([]api.Word, 5000), api.ErrArg},
		{"one that doesn't stand, in a full heap", []api.Word{w, bad}, api.ErrArg},
		{"none, in a full heap", nil, api.ErrFull},
		{"empty, in a full heap", []api.Word{}, api.ErrFull},
		{"eight, in a full heap", []api.Word{one, one, one, one, one, one, one, one}, api.ErrFull},
	}
	for _, c := range cases {
		if v, e := h.Join(c.l); e != c.want || v != (api.Word{}) {
			t.Error(c.name, v, e, "want", c.want)
		}
	}
	h = made(t, 8)
	if _, e := h.Join([]api.Word{one, one, one, one, one, one, one, one}); e != api.ErrFull {
		t.Error("nine words in eight", e)
	}
	join(t, h, one, one, one, one, one, one, one)
	wantUsed(t, h, 8)
}

// TestJoinTooDeep: 12 deep is let go, 13 is not, and that there is no room is told first.
func TestJoinTooDeep(t *testing.T) {
	for _, s := range []string{nested(11, "1"), nested(11, "")} {
		h := made(t, 1000)
		w := join(t, h, put(t, h, s))
		wantText(t, h, w, "("+s+")")
		used := h.Used()
		if v, e := h.Join([]api.Word{intOf(1), w}); e != api.ErrLarge || v != (api.Word{}) {
			t.Error(s, v, e)
		}
		wantUsed(t, h, used)
	}
	h := made(t, 25)
	w := put(t, h, nested(12, "1"))
	if _, e := h.Join([]api.Word{w}); e != api.ErrFull {
		t.Error(e)
	}
	collect(t, h)
	w = put(t, h, nested(11, ""))
	join(t, h, w)
	wantUsed(t, h, 21+2)
}

// TestJoinTooLarge: what counts is what it stands for, not how many words it takes: what is shared counts each time.
func TestJoinTooLarge(t *testing.T) {
	h := made(t, 58)
	row := put(t, h, "(1 1 1 1 1 1 1 1)") // 9
	block := join(t, h, row, row, row, row, row, row, row, row)
	wantUsed(t, h, 18) // it stands for 81
	all := []api.Word{block, block, row, row, row}
	three := put(t, h, "(1 2 3)")
	join(t, h, append(all, three)...) // 7 + 162 + 27 + 4
	wantUsed(t, h, 18+4+7)
	four := put(t, h, "(1 2 3 4)")
	used := h.Used()
	if v, e := h.Join(append(all, four)); e != api.ErrLarge || v != (api.Word{}) {
		t.Error(v, e)
	}
	wantUsed(t, h, used)
	for range 2 {
		join(t, h, row, row, row, row, row, row, row, row)
	}
	if _, e := h.Join(append(all, four)); e != api.ErrFull {
		t.Error("no room is told first", e)
	}
}

func TestLive(t *testing.T) {
	h := made(t, 100)
	a, b := put(t, h, "(a (b 2))"), put(t, h, "(c)")
	w := join(t, h, a, b, a) // 4
	v := join(t, h, a)       // 2
	cases := []struct {
		want  int
		roots []api.Word
	}{
		{0, nil}, {0, []api.Word{}}, {0, []api.Word{intOf(1), pidOf(1), put(t, h, "c")}},
		{6, []api.Word{a}}, {6, []api.Word{a, a, a}}, {2, []api.Word{b}}, {8, []api.Word{a, b}}, {12, []api.Word{w}},
		{12, []api.Word{w, a}}, {12, []api.Word{a, w, b}}, {8, []api.Word{v}}, {14, []api.Word{v, w}}, {10, []api.Word{v, b}},
	}
	for _, c := range cases {
		wantLive(t, h, c.want, c.roots...)
	}
	wantUsed(t, h, 14)
	many := make([]api.Word, 10000)
	for i := range many {
		many[i] = w
	}
	wantLive(t, h, 12, many...)
}

func TestCollect(t *testing.T) {
	h := made(t, 14)
	a, b := put(t, h, "(a (b 2))"), put(t, h, "(c)")
	w := join(t, h, a, b, a)
	gone := put(t, h, "(d)")
	wantUsed(t, h, 14)
	l := collect(t, h, intOf(3), w, a, w, pidOf(4), put(t, h, "d"))
	wantUsed(t, h, 12)
	for i, s := range []string{"3", "((a (b 2)) (c) (a (b 2)))", "(a (b 2))", "((a (b 2)) (c) (a (b 2)))", "#4", "d"} {
		wantText(t, h, l[i], s)
	}
	if l[1] != l[3] || l[0] != intOf(3) || l[4] != pidOf(4) || l[5] != put(t, h, "d") {
		t.Error(l)
	}
	wantLive(t, h, 12, l[1], l[2])
	wantLive(t, h, 6, l[2])
	l = collect(t, h, l[2])
	wantUsed(t, h, 6)
	wantText(t, h, l[0], "(a (b 2))")
	put(t, h, "(1 2 3 4 5 6 7)")
	wantUsed(t, h, 14)
	wantText(t, h, l[0], "(a (b 2))")
	if got := collect(t, h); len(got) != 0 || begin(h) != 0 {
		t.Error(got, begin(h))
	}
	wantUsed(t, h, 0)
	if _, e := h.Get(gone); e != api.ErrArg {
		t.Error("a tuple in an empty heap", e)
	}
}

// TestCollectKeepsApart: equal tuples that aren't shared are none afterwards either.
func TestCollectKeepsApart(t *testing.T) {
	h := made(t, 100)
	a, b := put(t, h, "(1 (2))"), put(t, h, "(1 (2))")
	l := collect(t, h, b, a)
	if l[0] == l[1] {
		t.Error(l)
	}
	wantUsed(t, h, 10)
	wantLive(t, h, 5, l[0])
	wantLive(t, h, 10, l...)
}

// TestCollectSharesWithin: what two roots, or two parts, share is shared afterwards.
func TestCollectSharesWithin(t *testing.T) {
	h := made(t, 1000)
	w := put(t, h, "(x)")
	var l []api.Word
	for range 5 {
		w = join(t, h, w, w)
		l = append(l, w)
	}
	wantUsed(t, h, 2+5*3)
	for range 3 {
		l = collect(t, h, l...)
		wantUsed(t, h, 2+5*3)
		for i, w := range l {
			wantLive(t, h, 2+3*(i+1), w)
		}
	}
	slices.Reverse(l)
	l = collect(t, h, l...)
	wantUsed(t, h, 2+5*3)
	wantText(t, h, l[4], "((x) (x))")
	wantText(t, h, l[3], "(((x) (x)) ((x) (x)))")
}

// TestCollectFailingChangesNothing: not even if the word that stands for none is the last.
func TestCollectFailingChangesNothing(t *testing.T) {
	h := made(t, 30)
	gap, w := put(t, h, "(gap)"), put(t, h, "(a (b))")
	if l, e := h.Collect([]api.Word{w, tupleAt(29)}); e != api.ErrArg || l != nil {
		t.Error(l, e)
	}
	wantUsed(t, h, 7)
	wantText(t, h, w, "(a (b))")
	wantText(t, h, gap, "(gap)")
}

// TestFailingCallsAreNotSeen: a heap that had them tells the same words as one that had none.
func TestFailingCallsAreNotSeen(t *testing.T) {
	calm, tried := made(t, 12), made(t, 12)
	for _, s := range []string{"a", "(b c)", "(d (e) f)", "c", "(x y z)", "g"} {
		tried.Put(read(t, "(p q r s t u v (w (x y)))"))
		tried.Put(read(t, "(h (i (j k) l) (m n o (p q)))"))
		tried.Put(read(t, "(open $0)"))
		tried.Put(api.Term{Kind: api.KTuple, Args: []api.Term{read(t, "ill"), {}}})
		tried.Join(make([]api.Word, 8))
		tried.Join([]api.Word{intOf(1), intOf(2), intOf(3), intOf(4), intOf(5), intOf(6), intOf(7), pidOf(0)})
		tried.Collect([]api.Word{intOf(1), pidOf(0)})
		tried.Live([]api.Word{pidOf(0)})
		v, d := calm.Put(read(t, s))
		w, e := tried.Put(read(t, s))
		if v != w || d != e || calm.Used() != tried.Used() {
			t.Error(s, v, w, d, e)
		}
	}
}

// TestZeroHeap: it is one without room, as New(0) tells one.
func TestZeroHeap(t *testing.T) {
	var h heap.Heap
	wantUsed(t, &h, 0)
	wantText(t, &h, put(t, &h, "abc"), "abc")
	wantLive(t, &h, 0, put(t, &h, "#3"))
	collect(t, &h, intOf(1))
	if _, e := h.Put(read(t, "()")); e != api.ErrFull {
		t.Error(e)
	}
	if _, e := h.Join(nil); e != api.ErrFull {
		t.Error(e)
	}
	if _, e := h.Get(tupleAt(0)); e != api.ErrArg {
		t.Error(e)
	}
}
