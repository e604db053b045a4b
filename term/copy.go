package term

import (
	"strings"

	"heapmail/api"
)

// Copy tells t in new memory, names and lists without spare room: what was
// handed in must not be met again in an answer, nor in what is kept.
func Copy(t api.Term) api.Term {
	return api.Term{Kind: t.Kind, N: t.N, Name: strings.Clone(t.Name), Args: CopyAll(t.Args)}
}

// CopyAll tells a new list of copies of the terms of l.
func CopyAll(l []api.Term) []api.Term {
	if len(l) == 0 {
		return nil
	}
	out := make([]api.Term, len(l))
	for i, t := range l {
		out[i] = Copy(t)
	}
	return out
}
