package bond_test

import (
	"fmt"
	"math"
	"slices"
	"strings"
	"testing"

	"heapmail/api"
	"heapmail/bond"
)

// linked are bonds with these pairs, told as 1-2, with a blank between.
func linked(t *testing.T, s string) *bond.Bonds {
	t.Helper()
	b := bond.New()
	link(t, b, s)
	return b
}

func link(t *testing.T, b *bond.Bonds, s string) {
	t.Helper()
	for _, p := range strings.Fields(s) {
		var x, y int
		if _, err := fmt.Sscanf(p, "%d-%d", &x, &y); err != nil {
			t.Fatal(p, err)
		}
		if e := b.Link(x, y); e != api.OK {
			t.Fatal(p, e)
		}
	}
}

// pairs that Of tells, of all processes: each one from both sides.
func pairs(t *testing.T, b *bond.Bonds) string {
	t.Helper()
	var out []string
	for x := 1; x <= api.MaxPid; x++ {
		for _, y := range b.Of(x) {
			if !slices.Contains(b.Of(y), x) {
				t.Errorf("%d is with %d, but not the other way round", x, y)
			}
			if x < y {
				out = append(out, fmt.Sprintf("%d-%d", x, y))
			}
		}
	}
	return strings.Join(out, " ")
}

func wantPairs(t *testing.T, b *bond.Bonds, want string) {
	t.Helper()
	if got := pairs(t, b); got != want {
		t.Errorf("pairs %q, wanted %q", got, want)
	}
}

func wantOf(t *testing.T, b *bond.Bonds, x int, want ...int) {
	t.Helper()
	if got := b.Of(x); !slices.Equal(got, want) {
		t.Errorf("of %d: %v, wanted %v", x, got, want)
	}
}

func wantEnd(t *testing.T, b *bond.Bonds, x int, want ...int) {
	t.Helper()
	if got := b.End(x, false); !slices.Equal(got, want) {
		t.Errorf("end of %d: %v, wanted %v", x, got, want)
	}
}

func wantEndAlone(t *testing.T, b *bond.Bonds, x int) {
	t.Helper()
	if got := b.End(x, true); len(got) != 0 {
		t.Errorf("end of %d alone: %v is told", x, got)
	}
}

// strangers are numbers of no process.
func strangers() []int {
	return []int{0, -1, -2, -99, 100, 101, 199, 1 << 32, 1<<32 + 1, math.MinInt, math.MinInt + 1, math.MaxInt}
}

func TestNewHasNone(t *testing.T) {
	b := bond.New()
	wantPairs(t, b, "")
	for x := range 101 {
		wantOf(t, b, x)
		wantEnd(t, b, x)
		wantEndAlone(t, b, x)
	}
	wantPairs(t, b, "")
}

// TestAllZero: a Bonds that New didn't make answers as one that it made.
func TestAllZero(t *testing.T) {
	var b bond.Bonds
	wantOf(t, &b, 1)
	wantEnd(t, &b, 1)
	wantEndAlone(t, &b, 1)
	link(t, &b, "1-2 2-3")
	wantPairs(t, &b, "1-2 2-3")
	wantEnd(t, &b, 1, 2, 3)
	wantPairs(t, &b, "")
}

// TestLinkErrors: numbers of no process, on either side, and one with itself; nothing is linked by that.
func TestLinkErrors(t *testing.T) {
	b := linked(t, "1-99 5-6")
	refused := func(x, y int) {
		t.Helper()
		if e := b.Link(x, y); e != api.ErrArg {
			t.Errorf("link %d, %d: %d", x, y, e)
		}
	}
	for _, n := range strangers() {
		for _, m := range append(strangers(), 1, 2, 50, 98, 99) {
			refused(n, m)
			refused(m, n)
		}
	}
	for x := 1; x <= api.MaxPid; x++ {
		refused(x, x)
	}
	wantPairs(t, b, "1-99 5-6")
	for _, n := range strangers() {
		wantOf(t, b, n)
	}
}

// TestLinkEdges: the lowest and the highest number may be in a pair.
func TestLinkEdges(t *testing.T) {
	b := linked(t, "1-99 99-98 2-1")
	wantOf(t, b, 1, 2, 99)
	wantOf(t, b, 99, 1, 98)
	wantPairs(t, b, "1-2 1-99 98-99")
	wantEnd(t, b, 2, 1, 99, 98)
}

// TestOnePairHoweverOften it is asked for, and whichever way round: once it is gone, it is gone.
func TestOnePairHoweverOften(t *testing.T) {
	b := linked(t, "4-7 4-7 7-4 4-7 7-4")
	wantOf(t, b, 4, 7)
	wantOf(t, b, 7, 4)
	wantEndAlone(t, b, 4)
	wantPairs(t, b, "")
	link(t, b, "7-4 4-7 7-4")
	wantEnd(t, b, 4, 7)
	wantPairs(t, b, "")
	wantEnd(t, b, 4)
	wantEnd(t, b, 7)
}

// TestOfIsRising: as numbers, not as texts, nor as they came; and only those of one step.
func TestOfIsRising(t *testing.T) {
	b := linked(t, "10-30 10-9 99-10 10-2 11-10 10-1 20-10 10-12 98-10 2-3 3-77")
	for range 30 {
		wantOf(t, b, 10, 1, 2, 9, 11, 12, 20, 30, 98, 99)
	}
	wantOf(t, b, 2, 3, 10)
	wantOf(t, b, 3, 2, 77)
	wantOf(t, b, 50)
}

// TestEndTellsAllThatOneComesTo, by one step or more, from whichever one.
func TestEndTellsAllThatOneComesTo(t *testing.T) {
	for x, want := range map[int][]int{1: {2, 3}, 2: {1, 3}, 3: {2, 1}} {
		b := linked(t, "1-2 2-3")
		wantEnd(t, b, x, want...)
		wantPairs(t, b, "")
	}
}

// TestEndOrder: nearer ones first; then by who they were come to from, in the order in which those are told; then rising.
func TestEndOrder(t *testing.T) {
	for _, c := range []struct {
		pairs string
		x     int
		want  []int
	}{
		{"5-9 5-2 9-1 2-3", 5, []int{2, 9, 3, 1}},
		{"50-3 50-20 20-1 20-2 3-99 3-98 3-4", 50, []int{3, 20, 4, 98, 99, 1, 2}},
		{"1-2 1-3 2-10 3-4 10-5 4-6 6-7", 1, []int{2, 3, 10, 4, 5, 6, 7}},
		{"1-10 1-9 10-2 9-30 30-3 2-4", 1, []int{9, 10, 30, 2, 3, 4}},
		{"8-4 8-6 4-5 6-5 6-1 5-2", 8, []int{4, 6, 5, 1, 2}},
		{"9-8 8-7 7-6 6-5 5-4 4-3 3-2 2-1", 5, []int{4, 6, 3, 7, 2, 8, 1, 9}},
		{"7-1 7-2 7-3 3-99 2-98 1-97 97-4", 7, []int{1, 2, 3, 97, 98, 99, 4}},
	} {
		b := linked(t, c.pairs)
		wantEnd(t, b, c.x, c.want...)
		wantPairs(t, b, "")
	}
}

// TestEndOfRounds: where one comes back to x, or to another by two ways, each is told once, and x isn't.
func TestEndOfRounds(t *testing.T) {
	b := linked(t, "1-2 2-3 3-1")
	wantEnd(t, b, 2, 1, 3)
	wantPairs(t, b, "")
	b = linked(t, "1-2 2-3 3-4 4-5 5-1")
	wantEnd(t, b, 3, 2, 4, 1, 5)
	wantPairs(t, b, "")
	b = linked(t, "1-2 1-3 1-4 2-3 2-4 3-4")
	wantEnd(t, b, 4, 1, 2, 3)
	wantPairs(t, b, "")
	b = linked(t, "6-2 6-3 2-9 3-9 9-1 1-2 1-6")
	wantEnd(t, b, 6, 1, 2, 3, 9)
	wantPairs(t, b, "")
}

// TestEndLeavesOthers: those to whom one doesn't come stay as they were, and end by themselves.
func TestEndLeavesOthers(t *testing.T) {
	b := linked(t, "1-2 2-3 4-5 5-6 6-4 7-99")
	wantEnd(t, b, 50)
	wantPairs(t, b, "1-2 2-3 4-5 4-6 5-6 7-99")
	wantEnd(t, b, 3, 2, 1)
	wantPairs(t, b, "4-5 4-6 5-6 7-99")
	wantEnd(t, b, 1)
	wantEnd(t, b, 6, 4, 5)
	wantPairs(t, b, "7-99")
	wantEnd(t, b, 99, 7)
	wantPairs(t, b, "")
}

// TestEndAlone: only the pairs of x are gone: those with which it was stay in theirs.
func TestEndAlone(t *testing.T) {
	b := linked(t, "1-2 2-3 3-4 2-5 5-1 8-9")
	wantEndAlone(t, b, 2)
	wantPairs(t, b, "1-5 3-4 8-9")
	wantEndAlone(t, b, 2)
	wantEndAlone(t, b, 50)
	wantPairs(t, b, "1-5 3-4 8-9")
	wantEnd(t, b, 1, 5)
	wantEnd(t, b, 2)
	wantEnd(t, b, 4, 3)
	wantPairs(t, b, "8-9")
}

// TestEndOfNobody: a number of no process is in no pair.
func TestEndOfNobody(t *testing.T) {
	b := linked(t, "1-99 1-2 98-99")
	for _, n := range strangers() {
		wantEnd(t, b, n)
		wantEndAlone(t, b, n)
	}
	wantPairs(t, b, "1-2 1-99 98-99")
}

// TestLinkAfterEnd: whoever ended may be in a pair again, and what was gone isn't there again by that.
func TestLinkAfterEnd(t *testing.T) {
	b := linked(t, "1-2 2-3 3-4")
	wantEnd(t, b, 1, 2, 3, 4)
	link(t, b, "3-2 4-9")
	wantPairs(t, b, "2-3 4-9")
	wantEndAlone(t, b, 4)
	link(t, b, "4-3")
	wantEnd(t, b, 2, 3, 4)
	wantPairs(t, b, "")
}

// TestAllPairsAtOnce: each process with each one, and all of them in one long row.
func TestAllPairsAtOnce(t *testing.T) {
	b := bond.New()
	row := bond.New()
	var rest []int
	for x := api.MaxPid; x >= 1; x-- {
		for y := 1; y < x; y++ {
			if b.Link(x, y) != api.OK {
				t.Fatal(x, y)
			}
		}
		if x < api.MaxPid && row.Link(x, x+1) != api.OK {
			t.Fatal(x)
		}
	}
	for y := 2; y <= api.MaxPid; y++ {
		rest = append(rest, y)
	}
	wantOf(t, b, 1, rest...)
	wantEndAlone(t, b, 50)
	wantOf(t, b, 50)
	wantEnd(t, row, 1, rest...)
	wantPairs(t, row, "")
	rest = slices.DeleteFunc(rest, func(y int) bool { return y == 50 })
	wantEnd(t, b, 1, rest...)
	wantPairs(t, b, "")
}
