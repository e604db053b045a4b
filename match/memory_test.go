package match_test

import (
	"reflect"
	"testing"
	"unsafe"

	"heapmail/api"
	"heapmail/match"
	"heapmail/term"
)

// roomy tells x with spare room behind each of its lists.
func roomy(x api.Term) api.Term {
	if x.Kind != api.KTuple {
		return x
	}
	l := make([]api.Term, 0, len(x.Args)+3)
	for _, a := range x.Args {
		l = append(l, roomy(a))
	}
	return api.Term{Kind: api.KTuple, Args: l}
}

// whole tells what stands in a list and in the room behind it, and in all lists within.
func whole(l []api.Term) []api.Term {
	out := append([]api.Term(nil), l[:cap(l)]...)
	for i, x := range out {
		if x.Args != nil {
			out[i].Args = whole(x.Args)
		}
	}
	return out
}

// spoil a list, the room behind it, and all lists within.
func spoil(l []api.Term) {
	for _, x := range l {
		spoil(x.Args)
	}
	for i := range l[:cap(l)] {
		l[:cap(l)][i] = api.Term{Kind: 77}
	}
}

// TestNothingHandedInIsChanged holds P2, with the room behind each list, while
// calling, and when what was told is overwritten.
func TestNothingHandedInIsChanged(t *testing.T) {
	in := roomy(read(t, "((($0 x) $1 ($2) $3) ((y x) (1 (2)) ((b)) #3) (_ _ (b) _))")).Args
	p, x, bound := in[0], in[1], in[2].Args
	kept := whole(in)
	for range 2 {
		l, ok, e := match.Fits(p, x, bound)
		if e != api.OK || !ok || texts(l) != "y (1 (2)) (b) #3" {
			t.Fatal(texts(l), ok, e)
		}
		if !reflect.DeepEqual(whole(in), kept) {
			t.Error("changed by the call")
		}
		spoil(l)
		if !reflect.DeepEqual(whole(in), kept) {
			t.Fatal("what was told shares memory with what was handed in")
		}
		if _, ok, e := match.Fits(p, read(t, "((y x) 1 (c) 1)"), bound); e != api.OK || ok || !reflect.DeepEqual(whole(in), kept) {
			t.Error("changed by what doesn't fit", ok, e)
		}
	}
}

// TestListsOfOneAnswerShareNothing: also where a part and what is about it are bound, or one list is bound twice.
func TestListsOfOneAnswerShareNothing(t *testing.T) {
	x := tup(read(t, "(a (b))"))
	x = tup(x.Args[0], x.Args[0])
	one := read(t, "(c (d))")
	want := "(a (b)) (a (b)) (c (d)) (c (d))"
	for i := range 4 {
		l, ok, e := match.Fits(read(t, "($0 $1)"), x, []api.Term{{Kind: api.KAny}, {Kind: api.KAny}, one, one})
		if e != api.OK || !ok || texts(l) != want {
			t.Fatal(texts(l), ok, e)
		}
		spoil(l[i].Args)
		l[i] = api.Term{}
		for k, s := range []string{"(a (b))", "(a (b))", "(c (d))", "(c (d))"} {
			if k != i && texts(l[k:k+1]) != s {
				t.Error("variables", i, "and", k, "share a list", texts(l[k:k+1]))
			}
		}
	}
}

func TestNamesAreNewMemory(t *testing.T) {
	name := []byte("abc")
	a := api.Term{Kind: api.KAtom, Name: unsafe.String(&name[0], len(name))}
	l, ok, e := match.Fits(read(t, "($0 $1)"), tup(a, tup(a)), []api.Term{{Kind: api.KAny}, {Kind: api.KAny}, a, tup(a)})
	copy(name, "xyz")
	if e != api.OK || !ok || texts(l) != "abc (abc) abc (abc)" {
		t.Error(texts(l), ok, e)
	}
	if term.Order(a, read(t, "xyz")) != 0 {
		t.Error(a)
	}
}
