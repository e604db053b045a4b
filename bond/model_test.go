package bond_test

import (
	"fmt"
	"math/rand"
	"slices"
	"strings"
	"testing"

	"heapmail/api"
	"heapmail/bond"
)

// model of bonds: a table of who is with whom, from both sides.
type model [api.MaxPid + 1][api.MaxPid + 1]bool

func (m *model) link(x, y int) api.Errno {
	if x < 1 || x > 99 || y < 1 || y > 99 || x == y {
		return api.ErrArg
	}
	m[x][y], m[y][x] = true, true
	return api.OK
}

func (m *model) pairs() string {
	var out []string
	for x := range m {
		for y := x + 1; y < len(m); y++ {
			if m[x][y] {
				out = append(out, fmt.Sprintf("%d-%d", x, y))
			}
		}
	}
	return strings.Join(out, " ")
}

func (m *model) part(x int) {
	for y := range m {
		m[x][y], m[y][x] = false, false
	}
}

// far tells of each one how many steps it is from x: more than there are processes, if one doesn't come to it.
func (m *model) far(x int) []int {
	far := slices.Repeat([]int{len(m)}, len(m))
	far[x] = 0
	for changed := true; changed; {
		changed = false
		for y := range m {
			for z := range m {
				if m[y][z] && far[y]+1 < far[z] {
					far[z], changed = far[y]+1, true
				}
			}
		}
	}
	return far
}

// end sorts those to whom one comes: by how far they are, then by who of those told is the first one with which they
// are in a pair, then by number.
func (m *model) end(x int, alone bool) []int {
	var told []int
	far := m.far(x)
	for steps := 1; !alone && steps < len(m); steps++ {
		var next [][2]int
		for y := range m {
			if far[y] == steps {
				first := slices.IndexFunc(told, func(z int) bool { return m[y][z] })
				next = append(next, [2]int{first, y})
			}
		}
		slices.SortFunc(next, func(p, q [2]int) int { return slices.Compare(p[:], q[:]) })
		for _, p := range next {
			told = append(told, p[1])
		}
	}
	for _, y := range append([]int{x}, told...) {
		m.part(y)
	}
	return told
}

// one call of b, of which the model must tell the same.
func (m *model) one(t *testing.T, r *rand.Rand, b *bond.Bonds, numbers []int, links int) string {
	t.Helper()
	x, y := numbers[r.Intn(len(numbers))], numbers[r.Intn(len(numbers))]
	if r.Intn(40) == 0 {
		y = r.Intn(2) * 100
	}
	if r.Intn(100) < links {
		want := m.link(x, y)
		if e := b.Link(x, y); e != want {
			t.Fatal("Link", x, y, e, want)
		}
		return fmt.Sprint("link ", want)
	}
	alone := r.Intn(2) == 0
	want := m.end(x, alone)
	if got := b.End(x, alone); !slices.Equal(got, want) {
		t.Fatal("End", x, alone, got, want)
	}
	return fmt.Sprint("end of ", min(len(want), 3))
}

// TestAgainstModel does many calls, among few processes and many, with few pairs and many.
func TestAgainstModel(t *testing.T) {
	happened := map[string]int{}
	all := make([]int, api.MaxPid)
	for i := range all {
		all[i] = i + 1
	}
	for seed := range int64(80) {
		r := rand.New(rand.NewSource(seed))
		numbers := [][]int{{1, 2, 99}, {1, 2, 3, 9, 10, 11, 98, 99}, all[20:50], all}[seed%4]
		b, m := bond.New(), &model{}
		for i := range 300 {
			happened[m.one(t, r, b, numbers, []int{95, 60, 85}[i/100])]++
			if i%5 == 0 {
				wantPairs(t, b, m.pairs())
			}
			if t.Failed() {
				t.FailNow()
			}
		}
	}
	for _, s := range []string{"link 0", "link 1", "end of 0", "end of 1", "end of 2", "end of 3"} {
		if happened[s] < 50 {
			t.Error("too few for this to say much", s, happened)
		}
	}
}
