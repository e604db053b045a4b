// Package term: terms: see doc/01-term.md.
package term

import (
	"cmp"

	"heapmail/api"
)

// Check: P3: whether t is a term, and then whether it is small enough.
func Check(t api.Term) api.Errno {
	if !formed(t) {
		return api.ErrForm
	}
	if depth(t) > api.MaxDepth || Size(t) > api.MaxSize {
		return api.ErrLarge
	}
	return api.OK
}

// Closed: P3. It looks into the Args of every Kind, since any value of the
// type may be asked about, not just terms.
func Closed(t api.Term) bool {
	if t.Kind == api.KVar || t.Kind == api.KAny {
		return false
	}
	for _, a := range t.Args {
		if !Closed(a) {
			return false
		}
	}
	return true
}

// Size: P3: how many words t's tuples have.
func Size(t api.Term) int {
	if t.Kind != api.KTuple {
		return 0
	}
	n := 1 + len(t.Args)
	for _, a := range t.Args {
		n += Size(a)
	}
	return n
}

// Order: P4.
func Order(a, b api.Term) int {
	if a.Kind != b.Kind {
		return cmp.Compare(a.Kind, b.Kind)
	}
	switch a.Kind {
	case api.KInt, api.KPid, api.KVar:
		return cmp.Compare(a.N, b.N)
	case api.KAtom:
		return cmp.Compare(a.Name, b.Name)
	case api.KTuple:
		return orderArgs(a.Args, b.Args)
	}
	return 0
}

func orderArgs(a, b []api.Term) int {
	if len(a) != len(b) {
		return cmp.Compare(len(a), len(b))
	}
	for i := range a {
		if n := Order(a[i], b[i]); n != 0 {
			return n
		}
	}
	return 0
}

// formed tells whether t, and each term in it, is as its Kind asks, whatever
// its size and depth.
func formed(t api.Term) bool {
	switch t.Kind {
	case api.KInt:
		return hasNumberOnly(t) && -api.MaxInt <= t.N && t.N <= api.MaxInt
	case api.KAtom:
		return t.N == 0 && len(t.Args) == 0 && IsName(t.Name)
	case api.KPid:
		return hasNumberOnly(t) && 1 <= t.N && t.N <= api.MaxPid
	case api.KTuple:
		return t.N == 0 && t.Name == "" && areArgs(t.Args)
	case api.KVar:
		return hasNumberOnly(t) && 0 <= t.N && t.N < api.MaxVar
	case api.KAny:
		return hasNumberOnly(t) && t.N == 0
	}
	return false
}

func hasNumberOnly(t api.Term) bool {
	return t.Name == "" && len(t.Args) == 0
}

// IsName tells whether s may be an atom's Name.
func IsName(s string) bool {
	return 1 <= len(s) && len(s) <= api.MaxName && areLetters(s)
}

func areLetters(s string) bool {
	for i := 0; i < len(s); i++ {
		if s[i] < 'a' || s[i] > 'z' {
			return false
		}
	}
	return true
}

func areArgs(l []api.Term) bool {
	if len(l) > api.MaxArgs {
		return false
	}
	for _, a := range l {
		if !formed(a) {
			return false
		}
	}
	return true
}

// depth tells how deep tuples are nested in t: 0, if it is none.
func depth(t api.Term) int {
	if t.Kind != api.KTuple {
		return 0
	}
	deepest := 0
	for _, a := range t.Args {
		deepest = max(deepest, depth(a))
	}
	return 1 + deepest
}
