package reckon_test

import (
	"reflect"
	"testing"
	"unsafe"

	"heapmail/api"
	"heapmail/reckon"
)

// roomy tells x with spare room behind each of its lists.
func roomy(x api.Term) api.Term {
	if x.Kind != api.KTuple {
		return x
	}
	l := make([]api.Term, 0, len(x.Args)+3)
	for _, a := range x.Args {
		l = append(l, roomy(a))
	}
	return api.Term{Kind: api.KTuple, Args: l}
}

// whole tells what stands in a list and in the room behind it, and in all lists within.
func whole(l []api.Term) []api.Term {
	out := append([]api.Term(nil), l[:cap(l)]...)
	for i, x := range out {
		if x.Args != nil {
			out[i].Args = whole(x.Args)
		}
	}
	return out
}

// spoil a list, the room behind it, and all lists within.
func spoil(l []api.Term) {
	for _, x := range l {
		spoil(x.Args)
	}
	for i := range l[:cap(l)] {
		l[:cap(l)][i] = api.Term{Kind: 77}
	}
}

// TestNothingHandedInIsChanged holds P2, with the room behind each list, while
// calling, and when what was told is overwritten.
func TestNothingHandedInIsChanged(t *testing.T) {
	for s, want := range map[string]string{
		"(a (b c) $0 (add 1 $1) (put (d (e))) (self))": "(a (b c) (x (y)) 3 (d (e)) #9)",
		"$0": "(x (y))", "(put (d (e)))": "(d (e))", "(a (b c))": "(a (b c))", "()": "()", "(a $2)": bad,
	} {
		in := roomy(tup(read(t, s), read(t, "((x (y)) 2 _ _)"))).Args
		kept := whole(in)
		for range 2 {
			v, e := reckon.Value(in[0], in[1].Args, 9)
			if got := text(v); (e == api.OK && got != want) || (e != api.OK && want != bad) {
				t.Fatal(s, got, e)
			}
			if !reflect.DeepEqual(whole(in), kept) {
				t.Error(s, "changed by the call")
			}
			spoil(v.Args)
			if !reflect.DeepEqual(whole(in), kept) {
				t.Fatal(s, "what was told shares memory with what was handed in")
			}
		}
	}
}

// TestListsOfOneAnswerShareNothing: also where one variable stands twice, or two are bound to one list.
func TestListsOfOneAnswerShareNothing(t *testing.T) {
	one, part := read(t, "(c (d))"), read(t, "(put (c (d)))")
	for i := range 5 {
		x := tup(read(t, "$0"), read(t, "$0"), read(t, "$1"), part, part)
		v, e := reckon.Value(x, []api.Term{one, one, {Kind: api.KAny}, {Kind: api.KAny}}, 9)
		if e != api.OK || text(v) != "((c (d)) (c (d)) (c (d)) (c (d)) (c (d)))" {
			t.Fatal(text(v), e)
		}
		spoil(v.Args[i].Args)
		for k, a := range v.Args {
			if k != i && text(a) != "(c (d))" {
				t.Error("parts", i, "and", k, "share a list", text(a))
			}
		}
	}
}

func TestNamesAreNewMemory(t *testing.T) {
	name := []byte("abc")
	a := api.Term{Kind: api.KAtom, Name: unsafe.String(&name[0], len(name))}
	bound := []api.Term{a, tup(a), {Kind: api.KAny}, {Kind: api.KAny}}
	v, e := reckon.Value(tup(a, tup(a), tup(read(t, "put"), a), read(t, "$0"), read(t, "$1")), bound, 9)
	w, f := reckon.Value(a, bound, 9)
	copy(name, "xyz")
	if e != api.OK || text(v) != "(abc (abc) abc abc (abc))" || f != api.OK || text(w) != "abc" {
		t.Error(text(v), e, text(w), f)
	}
}
