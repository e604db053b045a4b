package bond_test

import (
	"slices"
	"testing"

	"heapmail/bond"
)

// spoil what was told, the room behind it, too.
func spoil(l []int) {
	for i := range l[:cap(l)] {
		l[:cap(l)][i] = 77
	}
}

// TestOfIsNewMemory holds P2: each list that is told is one of its own.
func TestOfIsNewMemory(t *testing.T) {
	b := linked(t, "5-1 5-2 5-3 2-9")
	first, second := b.Of(5), b.Of(5)
	spoil(first)
	if !slices.Equal(second, []int{1, 2, 3}) {
		t.Error(second)
	}
	spoil(second)
	wantPairs(t, b, "1-5 2-5 2-9 3-5")
	third := b.Of(5)
	link(t, b, "5-4")
	wantEnd(t, b, 5, 1, 2, 3, 4, 9)
	if !slices.Equal(third, []int{1, 2, 3}) {
		t.Error("a list that was told is changed", third)
	}
}

// TestEndIsNewMemory holds P2, of what was told before and after, by another call, too.
func TestEndIsNewMemory(t *testing.T) {
	b := linked(t, "1-2 2-3 3-4 7-8 8-9 7-6")
	of := b.Of(7)
	first := b.End(1, false)
	second := b.End(7, false)
	spoil(first)
	if !slices.Equal(second, []int{6, 8, 9}) || !slices.Equal(of, []int{6, 8}) {
		t.Error(second, of)
	}
	link(t, b, "7-8 8-9")
	spoil(second)
	wantPairs(t, b, "7-8 8-9")
	wantEnd(t, b, 9, 8, 7)
	if !slices.Equal(of, []int{6, 8}) {
		t.Error("a list that was told is changed", of)
	}
}

// TestBondsShareNothing: what is linked or ends in one isn't seen in another.
func TestBondsShareNothing(t *testing.T) {
	a, b := bond.New(), bond.New()
	link(t, a, "1-2 2-3")
	wantPairs(t, b, "")
	link(t, b, "1-2 3-4")
	wantEnd(t, a, 1, 2, 3)
	wantPairs(t, b, "1-2 3-4")
	wantEndAlone(t, b, 3)
	wantEnd(t, b, 2, 1)
	wantPairs(t, a, "")
}
