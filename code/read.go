package code

import (
	"strings"

	"heapmail/api"
	"heapmail/term"
)

// readProgram tells what t, a term, tells as a program, in new memory: false,
// if something in it has another shape. How many there are of each is not asked
// here.
func readProgram(t api.Term) ([]api.Behaviour, bool) {
	word, parts := open(t)
	if word != wordCode {
		return nil, false
	}
	return readAll(parts, readBehaviour)
}

func readBehaviour(t api.Term) (api.Behaviour, bool) {
	word, parts := open(t)
	if word != wordBeh || len(parts) < 1 || parts[0].Kind != api.KAtom {
		return api.Behaviour{}, false
	}
	clauses, ok := readAll(parts[1:], readClause)
	return api.Behaviour{Name: strings.Clone(parts[0].Name), Clauses: clauses}, ok
}

func readClause(t api.Term) (api.Clause, bool) {
	word, parts := open(t)
	if word != wordOn || len(parts) != 4 || parts[2].Kind != api.KTuple {
		return api.Clause{}, false
	}
	acts, ok := readAll(parts[2].Args, readAct)
	return api.Clause{
		State:   term.Copy(parts[0]),
		Message: term.Copy(parts[1]),
		Acts:    acts,
		Next:    term.Copy(parts[3]),
	}, ok
}

func readAct(t api.Term) (api.Act, bool) {
	word, parts := open(t)
	switch {
	case word == wordSend && len(parts) == 2:
		return api.Act{Kind: api.ASend, To: term.Copy(parts[0]), What: term.Copy(parts[1])}, true
	case word == wordSpawn && len(parts) == 3:
		return readSpawn(parts[0], parts[1], parts[2])
	case word == wordLink && len(parts) == 1:
		return api.Act{Kind: api.ALink, To: term.Copy(parts[0])}, true
	case word == wordStop && len(parts) == 0:
		return api.Act{Kind: api.AStop}, true
	}
	return api.Act{}, false
}

func readSpawn(name, what, variable api.Term) (api.Act, bool) {
	if name.Kind != api.KAtom || variable.Kind != api.KVar {
		return api.Act{}, false
	}
	return api.Act{Kind: api.ASpawn, What: term.Copy(what), Name: strings.Clone(name.Name), Var: variable.N}, true
}

// open tells the atom with which t begins, and what stands behind it: no atom,
// if t is no such tuple.
func open(t api.Term) (string, []api.Term) {
	if t.Kind != api.KTuple || len(t.Args) == 0 || t.Args[0].Kind != api.KAtom {
		return "", nil
	}
	return t.Args[0].Name, t.Args[1:]
}

// readAll tells what read makes of each term of l: false, if it fails of one.
func readAll[T any](l []api.Term, read func(api.Term) (T, bool)) ([]T, bool) {
	var out []T
	for _, t := range l {
		x, ok := read(t)
		if !ok {
			return nil, false
		}
		out = append(out, x)
	}
	return out, true
}
