package heap

import "heapmail/api"

// tuples stand one behind the other: of each a word for how many parts it has,
// and then those of its parts.
type tuples []api.Word

// first is the Kind of the word with which a tuple begins. No term has it: so
// that word is never taken for a part, nor a part for it.
const first = 0

// begins tells whether a tuple begins at that place.
func (s tuples) begins(place int) bool {
	return 0 <= place && place < len(s) && s[place].Kind == first
}

// parts of the tuple that begins at that place.
func (s tuples) parts(place int) []api.Word {
	from := place + 1
	return s[from : from+s[place].N]
}

// add a tuple, and tell its word.
func (s *tuples) add(parts []api.Word) api.Word {
	place := len(*s)
	*s = append(*s, api.Word{Kind: first, N: len(parts)})
	*s = append(*s, parts...)
	return api.Word{Kind: api.KTuple, N: place}
}

// reached tells copies of the tuples that one comes to from the roots, and for
// each root its word among them.
func (s tuples) reached(roots []api.Word) (tuples, []api.Word) {
	c := copying{from: s, went: map[int]int{}}
	l := c.all(roots)
	return c.to, l
}

// copying of tuples. It knows where each one went, so that one that is shared
// is copied once, and shared again.
type copying struct {
	from, to tuples
	went     map[int]int
}

// all tells the words of copies of what l stands for.
func (c *copying) all(l []api.Word) []api.Word {
	out := make([]api.Word, len(l))
	for i, w := range l {
		out[i] = c.one(w)
	}
	return out
}

func (c *copying) one(w api.Word) api.Word {
	if w.Kind != api.KTuple {
		return w
	}
	place, ok := c.went[w.N]
	if !ok {
		place = c.to.add(c.all(c.from.parts(w.N))).N
		c.went[w.N] = place
	}
	return api.Word{Kind: api.KTuple, N: place}
}
