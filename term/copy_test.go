package term_test

import (
	"strings"
	"testing"

	"heapmail/api"
	"heapmail/term"
)

// TestCopyIsNewMemory: whatever is done to a copy, or to what was copied, the other one stays.
func TestCopyIsNewMemory(t *testing.T) {
	name := strings.Clone("abc")
	shared := []api.Term{atom(name), num(2), num(7)}
	part := api.Term{Kind: api.KTuple, Args: shared[:2]}
	x := tup(part, part, tup(), pid(3), variable(1), wild())
	y := term.Copy(x)
	if term.Order(x, y) != 0 || term.Check(y) != api.OK {
		t.Fatal(y)
	}
	if within(y.Args[0].Args[0].Name, name) {
		t.Error("a name is that which was handed in")
	}
	l := y.Args[0].Args
	for i := range l[:cap(l)] {
		l[:cap(l)][i] = num(-1)
	}
	if s, _ := term.Print(y); s != "((-1 -1) (abc 2) () #3 $1 _)" {
		t.Error("lists of the copy share memory", s)
	}
	if s, _ := term.Print(x); s != "((abc 2) (abc 2) () #3 $1 _)" || shared[2].N != 7 {
		t.Error("what was handed in is changed", s, shared)
	}
}

func TestCopyAll(t *testing.T) {
	if l := term.CopyAll(nil); len(l) != 0 {
		t.Error(l)
	}
	from := []api.Term{num(1), tup(atom("a")), num(9)}
	l := term.CopyAll(from[:2])
	if len(l) != 2 || term.Order(l[0], num(1)) != 0 || term.Order(l[1], tup(atom("a"))) != 0 {
		t.Fatal(l)
	}
	l[1].Args[0] = num(5)
	if _ = append(l[:1], num(8)); term.Order(from[1], tup(atom("a"))) != 0 || from[2].N != 9 {
		t.Error(from)
	}
}
