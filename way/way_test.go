package way_test

import (
	"fmt"
	"math"
	"slices"
	"strings"
	"testing"

	"heapmail/api"
	"heapmail/term"
	"heapmail/way"
)

func read(t *testing.T, s string) api.Term {
	t.Helper()
	x, at, e := term.Parse(s)
	if e != api.OK {
		t.Fatal(s, at, e)
	}
	return x
}

func text(x api.Term) string {
	s, e := term.Print(x)
	if e != api.OK {
		return fmt.Sprint("error ", e)
	}
	return s
}

func num(n int) api.Term         { return api.Term{Kind: api.KInt, N: n} }
func tup(l ...api.Term) api.Term { return api.Term{Kind: api.KTuple, Args: l} }

// send what s tells, each behind a comma, from a to b.
func send(t *testing.T, w *way.Ways, a, b int, s string) {
	t.Helper()
	for _, x := range strings.Split(s, ",") {
		if e := w.Send(a, b, read(t, x)); e != api.OK {
			t.Fatal(a, b, x, e)
		}
	}
}

// wantTaken from a to b: what s tells, each behind a comma, and as many fewer are there.
func wantTaken(t *testing.T, w *way.Ways, a, b int, s string) {
	t.Helper()
	for _, want := range strings.Split(s, ",") {
		n := w.Many(a, b)
		if x, e := w.Take(a, b); e != api.OK || text(x) != want || w.Many(a, b) != n-1 {
			t.Errorf("from %d to %d: %q, error %d, %d of %d left, wanted %q", a, b, text(x), e, w.Many(a, b), n, want)
		}
	}
}

// wantNone: there is nothing to take from a to b.
func wantNone(t *testing.T, w *way.Ways, a, b int) {
	t.Helper()
	if n := w.Many(a, b); n != 0 {
		t.Error(a, b, n)
	}
	if x, e := w.Take(a, b); e != api.ErrNone || !isZero(x) {
		t.Error(a, b, x, e)
	}
}

func isZero(x api.Term) bool {
	return x.Kind == 0 && x.N == 0 && x.Name == "" && len(x.Args) == 0
}

// wantWays: All tells these, each with as many messages as Many does.
func wantWays(t *testing.T, w *way.Ways, want string) {
	t.Helper()
	if got := ways(w); got != want {
		t.Errorf("%q, wanted %q", got, want)
	}
}

// ways that have messages, and how many.
func ways(w *way.Ways) string {
	var out []string
	for _, x := range w.All() {
		out = append(out, fmt.Sprintf("%d>%d:%d", x[0], x[1], w.Many(x[0], x[1])))
	}
	return strings.Join(out, " ")
}

// strangers are numbers of no process.
func strangers() []int {
	return []int{0, -1, -99, 100, 101, 199, 1 << 32, 1<<32 + 1, math.MinInt, math.MinInt + 1, math.MaxInt}
}

func TestNewHasNone(t *testing.T) {
	w := way.New()
	wantWays(t, w, "")
	for a := range 101 {
		for b := range 101 {
			wantNone(t, w, a, b)
		}
	}
	wantWays(t, w, "")
}

// TestAllZero: a Ways that New didn't make answers as one that it made.
func TestAllZero(t *testing.T) {
	var w way.Ways
	wantWays(t, &w, "")
	wantNone(t, &w, 1, 2)
	send(t, &w, 1, 2, "a,b")
	wantWays(t, &w, "1>2:2")
	wantTaken(t, &w, 1, 2, "a,b")
	wantNone(t, &w, 1, 2)
}

// TestFirstSentComesFirst: all kinds of closed terms, and the same one again, are taken as they were sent.
func TestFirstSentComesFirst(t *testing.T) {
	w := way.New()
	l := "b,a,(b),0,-1099511627776,1099511627776,#1,#99,(),a,(a (b (c #3) ()) -5 abcdefgh),(),a"
	send(t, w, 4, 9, l)
	wantWays(t, w, "4>9:13")
	wantTaken(t, w, 4, 9, l)
	wantNone(t, w, 4, 9)
	wantWays(t, w, "")
}

// TestTakingAndSendingInTurns: what comes later stands behind what waits, also where the row was empty between.
func TestTakingAndSendingInTurns(t *testing.T) {
	w := way.New()
	send(t, w, 1, 2, "a,b,c")
	wantTaken(t, w, 1, 2, "a")
	send(t, w, 1, 2, "d")
	wantTaken(t, w, 1, 2, "b,c")
	send(t, w, 1, 2, "e")
	wantTaken(t, w, 1, 2, "d,e")
	wantNone(t, w, 1, 2)
	send(t, w, 1, 2, "f,g")
	wantTaken(t, w, 1, 2, "f,g")
	wantNone(t, w, 1, 2)
	for i := range 1000 {
		send(t, w, 1, 2, fmt.Sprint(2*i, ",", 2*i+1))
		if i >= 9 {
			wantTaken(t, w, 1, 2, fmt.Sprint(2*i-18, ",", 2*i-17))
		}
	}
	wantWays(t, w, "1>2:18")
}

// TestEachWayIsOneOfItsOwn: there and back are two, one leads from each to itself, and what is done on one isn't seen on another.
func TestEachWayIsOneOfItsOwn(t *testing.T) {
	w := way.New()
	for i := range 3 {
		send(t, w, 1, 2, fmt.Sprint("(there ", i, ")"))
		send(t, w, 2, 1, fmt.Sprint("(back ", i, ")"))
		send(t, w, 1, 1, fmt.Sprint("(one ", i, ")"))
		send(t, w, 2, 2, fmt.Sprint("(two ", i, ")"))
	}
	wantWays(t, w, "1>1:3 1>2:3 2>1:3 2>2:3")
	wantTaken(t, w, 2, 1, "(back 0),(back 1),(back 2)")
	wantNone(t, w, 2, 1)
	wantWays(t, w, "1>1:3 1>2:3 2>2:3")
	wantTaken(t, w, 1, 1, "(one 0)")
	wantTaken(t, w, 1, 2, "(there 0),(there 1)")
	wantTaken(t, w, 2, 2, "(two 0),(two 1),(two 2)")
	wantTaken(t, w, 1, 1, "(one 1)")
	wantWays(t, w, "1>1:1 1>2:1")
}

// TestAllWaysAtOnce: from each process to each one, sent from the last one on, taken from the first one on.
func TestAllWaysAtOnce(t *testing.T) {
	w := way.New()
	var all [][2]int
	for a := range api.MaxPid {
		for b := range api.MaxPid {
			all = append(all, [2]int{a + 1, b + 1})
		}
	}
	for i := len(all) - 1; i >= 0; i-- {
		for k := range 2 {
			if e := w.Send(all[i][0], all[i][1], tup(num(i), num(k))); e != api.OK {
				t.Fatal(all[i], e)
			}
		}
	}
	for i, x := range all {
		if i%500 == 0 && !slices.Equal(w.All(), all[i:]) {
			t.Fatal("not all are told, or not in order", x)
		}
		wantTaken(t, w, x[0], x[1], fmt.Sprintf("(%d 0),(%d 1)", i, i))
	}
	wantWays(t, w, "")
}

// TestAllIsRising: by a first, as numbers, not as texts, nor as they came.
func TestAllIsRising(t *testing.T) {
	w := way.New()
	for _, x := range [][2]int{{10, 3}, {2, 30}, {99, 1}, {2, 4}, {9, 99}, {1, 99}, {10, 20}, {2, 11}, {99, 99}, {1, 1}, {10, 100 - 1}, {11, 1}} {
		send(t, w, x[0], x[1], "a")
	}
	wantWays(t, w, "1>1:1 1>99:1 2>4:1 2>11:1 2>30:1 9>99:1 10>3:1 10>20:1 10>99:1 11>1:1 99>1:1 99>99:1")
	send(t, w, 2, 11, "b")
	send(t, w, 2, 5, "b")
	wantTaken(t, w, 10, 20, "a")
	wantTaken(t, w, 1, 1, "a")
	wantWays(t, w, "1>99:1 2>4:1 2>5:1 2>11:2 2>30:1 9>99:1 10>3:1 10>99:1 11>1:1 99>1:1 99>99:1")
	for range 50 {
		wantWays(t, w, ways(w))
	}
}

// TestAtMostTwenty on each way: one more is taken again when one is gone, and what is on other ways doesn't count.
func TestAtMostTwenty(t *testing.T) {
	w := way.New()
	for i := range 20 {
		send(t, w, 3, 4, fmt.Sprint(i))
		send(t, w, 4, 3, fmt.Sprint(-i))
	}
	for range 2 {
		if e := w.Send(3, 4, num(20)); e != api.ErrLarge {
			t.Error(e)
		}
	}
	send(t, w, 3, 3, "a")
	send(t, w, 3, 5, "a")
	wantWays(t, w, "3>3:1 3>4:20 3>5:1 4>3:20")
	wantTaken(t, w, 3, 4, "0,1")
	send(t, w, 3, 4, "20,21")
	if e := w.Send(3, 4, num(22)); e != api.ErrLarge {
		t.Error(e)
	}
	for i := range 20 {
		wantTaken(t, w, 3, 4, fmt.Sprint(i+2))
		wantTaken(t, w, 4, 3, fmt.Sprint(-i))
	}
	wantWays(t, w, "3>3:1 3>5:1")
}

// TestNobodyIsThere: a number of no process has no way, whatever it is.
func TestNobodyIsThere(t *testing.T) {
	w := way.New()
	send(t, w, 1, 1, "a")
	send(t, w, 99, 99, "a")
	for _, n := range strangers() {
		for _, m := range append(strangers(), 1, 99) {
			wantNone(t, w, n, m)
			wantNone(t, w, m, n)
		}
	}
	wantWays(t, w, "1>1:1 99>99:1")
}
