package way_test

import (
	"testing"
	"unsafe"

	"heapmail/api"
	"heapmail/way"
)

// spoilList overwrites all of l, and the room behind it; lists within ahead of those about them.
func spoilList(l []api.Term) {
	whole := l[:cap(l)]
	for i := range whole {
		spoilList(whole[i].Args)
		whole[i] = api.Term{Kind: api.KInt, N: 77}
	}
}

// roomy tells x anew, with room behind each list in it, in which something stands.
func roomy(x api.Term) api.Term {
	l := make([]api.Term, 0, len(x.Args)+2)
	for _, a := range x.Args {
		l = append(l, roomy(a))
	}
	mark := tup(num(5))
	x.Args = append(l, mark, mark)[:len(x.Args)]
	return x
}

// seen tells all that is in x, the room behind its lists included.
func seen(x api.Term) string {
	s := text(x)
	for _, a := range x.Args[:cap(x.Args)] {
		s += ";" + seen(a)
	}
	return s
}

// TestHandedInIsNotChanged holds P2, with the room behind lists, whether it is sent or not.
func TestHandedInIsNotChanged(t *testing.T) {
	w := way.New()
	for _, s := range []string{"(a (b 5) ())", "(a (_))", "x"} {
		x := roomy(read(t, s))
		was := seen(x)
		for a := range 3 {
			for range 25 {
				w.Send(a, 1, x)
			}
		}
		for range 25 {
			w.Take(1, 1)
		}
		if seen(x) != was {
			t.Error("changed", s)
		}
	}
}

// TestHandedInIsNotKept holds P2: what is changed afterwards isn't seen on the way.
func TestHandedInIsNotKept(t *testing.T) {
	w := way.New()
	name := []byte("abc")
	x := roomy(tup(tup(api.Term{Kind: api.KAtom, Name: unsafe.String(&name[0], len(name))}, num(1)), num(2)))
	for range 2 {
		if e := w.Send(1, 2, x); e != api.OK {
			t.Fatal(e)
		}
	}
	copy(name, "xyz")
	spoilList(x.Args)
	wantTaken(t, w, 1, 2, "((abc 1) 2),((abc 1) 2)")
}

// TestTakenIsNewMemory: what was told may be overwritten, the room behind it, too, and nothing else is changed by that.
func TestTakenIsNewMemory(t *testing.T) {
	w := way.New()
	x := roomy(read(t, "((a 1) (b (c)) abc)"))
	was := seen(x)
	for range 3 {
		if w.Send(1, 2, x) != api.OK || w.Send(2, 1, x) != api.OK {
			t.Fatal("not sent")
		}
	}
	first, _ := w.Take(1, 2)
	second, _ := w.Take(1, 2)
	spoilList(first.Args)
	if text(second) != "((a 1) (b (c)) abc)" || seen(x) != was {
		t.Error(text(second), seen(x))
	}
	spoilList(second.Args)
	wantTaken(t, w, 1, 2, "((a 1) (b (c)) abc)")
	wantTaken(t, w, 2, 1, "((a 1) (b (c)) abc),((a 1) (b (c)) abc),((a 1) (b (c)) abc)")
	if seen(x) != was {
		t.Error(seen(x))
	}
}

// TestListsOfAnAnswerLieApart: one that is handed in twice in a term is told as two.
func TestListsOfAnAnswerLieApart(t *testing.T) {
	w := way.New()
	both := tup(num(1), num(2))
	if e := w.Send(1, 2, tup(both, both)); e != api.OK {
		t.Fatal(e)
	}
	x, _ := w.Take(1, 2)
	spoilList(x.Args[0].Args)
	if text(x.Args[1]) != "(1 2)" {
		t.Error(text(x))
	}
}

// TestNamesAreNewMemory: neither of what was handed in, nor of another answer.
func TestNamesAreNewMemory(t *testing.T) {
	w := way.New()
	x := read(t, "(abc abc)")
	names := map[*byte]int{}
	add := func(x api.Term) {
		for _, a := range x.Args {
			names[unsafe.StringData(a.Name)]++
		}
	}
	add(x)
	had := len(names)
	for range 3 {
		w.Send(1, 2, x)
		w.Send(1, 2, x)
		y, _ := w.Take(1, 2)
		add(y)
	}
	if len(names) != had+6 {
		t.Error("a name's memory is told twice", len(names), had)
	}
}

// TestTakenStays: what comes and goes afterwards isn't seen in it.
func TestTakenStays(t *testing.T) {
	w := way.New()
	send(t, w, 1, 2, "(a (1)),(b (2)),(c (3))")
	x, _ := w.Take(1, 2)
	send(t, w, 1, 2, "(d (4)),(e (5))")
	wantTaken(t, w, 1, 2, "(b (2)),(c (3))")
	if text(x) != "(a (1))" {
		t.Error(text(x))
	}
}

// TestAllIsNewMemory: each list that is told is one of its own.
func TestAllIsNewMemory(t *testing.T) {
	w := way.New()
	for _, n := range []int{5, 3, 9} {
		send(t, w, n, 1, "a")
	}
	first, second := w.All(), w.All()
	for i := range first[:cap(first)] {
		first[:cap(first)][i] = [2]int{77, 77}
	}
	if len(second) != 3 || second[0] != [2]int{3, 1} || second[1] != [2]int{5, 1} || second[2] != [2]int{9, 1} {
		t.Error(second)
	}
	wantWays(t, w, "3>1:1 5>1:1 9>1:1")
	wantTaken(t, w, 3, 1, "a")
	if len(second) != 3 || second[0] != [2]int{3, 1} {
		t.Error("a list that was told is changed", second)
	}
}

// TestWaysShareNothing: what is sent by one isn't seen in another.
func TestWaysShareNothing(t *testing.T) {
	v, w := way.New(), way.New()
	send(t, v, 1, 2, "a")
	wantWays(t, w, "")
	send(t, w, 1, 2, "b,c")
	wantTaken(t, v, 1, 2, "a")
	wantNone(t, v, 1, 2)
	wantWays(t, v, "")
	wantTaken(t, w, 1, 2, "b,c")
}
