package heap_test

import (
	"slices"
	"testing"
	"unsafe"

	"heapmail/api"
)

// TestHandedInIsNotKept holds P2: what is changed afterwards isn't seen in the heap.
func TestHandedInIsNotKept(t *testing.T) {
	h := made(t, 100)
	name := []byte("abc")
	args := []api.Term{{Kind: api.KAtom, Name: unsafe.String(&name[0], len(name))}, {Kind: api.KInt, N: 5}}
	w, e := h.Put(api.Term{Kind: api.KTuple, Args: args})
	if e != api.OK {
		t.Fatal(e)
	}
	copy(name, "xyz")
	args[1] = api.Term{Kind: api.KInt, N: 6}
	wantText(t, h, w, "(abc 5)")
	if a := put(t, h, "abc"); h.Used() != 3 {
		t.Error(a)
	} else if x := put(t, h, "xyz"); x == a {
		t.Error("the name's number is found by what was handed in")
	}
	l := []api.Word{w, intOf(1)}
	v := join(t, h, l...)
	l[0], l[1] = intOf(7), intOf(8)
	wantText(t, h, v, "((abc 5) 1)")
	roots := []api.Word{v, w}
	got := collect(t, h, roots...)
	roots[0], roots[1] = intOf(7), intOf(8)
	got[0], got[1] = got[1], got[0]
	wantText(t, h, got[1], "((abc 5) 1)")
	wantText(t, h, got[0], "(abc 5)")
}

// TestHandedInIsNotChanged holds P2 with the room behind a list.
func TestHandedInIsNotChanged(t *testing.T) {
	h := made(t, 100)
	gone, w := put(t, h, "(gone)"), put(t, h, "(a (b))")
	whole := []api.Word{w, intOf(1), w, {Kind: 77, N: 77}, {Kind: 78, N: 78}}
	kept := slices.Clone(whole)
	l := whole[:3]
	h.Join(l)
	h.Live(l)
	got := collect(t, h, l...)
	if !slices.Equal(whole, kept) {
		t.Error(whole)
	}
	for i := range got[:cap(got)] {
		got[:cap(got)][i] = api.Word{Kind: 79}
	}
	if !slices.Equal(whole, kept) {
		t.Error("what was told shares memory with what was handed in", whole, gone)
	}
	args := []api.Term{read(t, "a"), read(t, "(b)"), {Kind: 77}}
	h.Put(api.Term{Kind: api.KTuple, Args: args[:2]})
	if args[0].Name != "a" || args[1].Args[0].Name != "b" || args[2].Kind != 77 {
		t.Error(args)
	}
}

// lists of a term: those of each tuple in it.
func lists(x api.Term) [][]api.Term {
	if x.Kind != api.KTuple {
		return nil
	}
	l := [][]api.Term{x.Args}
	for _, a := range x.Args {
		l = append(l, lists(a)...)
	}
	return l
}

// spoil all lists of a term, with the room behind them.
func spoil(x api.Term) {
	for _, l := range lists(x) {
		for i := range l[:cap(l)] {
			l[:cap(l)][i] = api.Term{Kind: api.KInt, N: -1}
		}
	}
}

// TestGetTellsNewMemory holds P2: also of tuples that are shared in the heap.
func TestGetTellsNewMemory(t *testing.T) {
	h := made(t, 100)
	a := put(t, h, "(abc (def 2))")
	w := join(t, h, a, a)
	x, _ := h.Get(w)
	y, _ := h.Get(w)
	spoil(x.Args[0])
	for _, s := range lists(x.Args[1]) {
		for _, p := range s {
			if p.N == -1 {
				t.Error("two lists of one answer share memory")
			}
		}
	}
	spoil(x)
	wantText(t, h, w, "((abc (def 2)) (abc (def 2)))")
	if y.Args[1].Args[0].Name != "abc" || y.Args[0].Args[1].Args[1].N != 2 {
		t.Error("two answers share memory")
	}
}

// TestNamesAreNewMemory: neither what was handed in, nor what is kept, nor another answer.
func TestNamesAreNewMemory(t *testing.T) {
	h := made(t, 100)
	x := read(t, "(abc abc)")
	w, _ := h.Put(x)
	seen := map[*byte]int{unsafe.StringData(x.Args[0].Name): 1, unsafe.StringData(x.Args[1].Name): 1}
	for range 3 {
		y, _ := h.Get(w)
		for _, a := range y.Args {
			if seen[unsafe.StringData(a.Name)] != 0 {
				t.Error("a name's memory is told twice")
			}
			seen[unsafe.StringData(a.Name)] = 1
		}
	}
}
