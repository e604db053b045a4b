package code

import (
	"heapmail/api"
	"heapmail/term"
)

// How many of each there may be: as many as a tuple has room for beside the
// atoms ahead of them.
const (
	maxBehaviours = api.MaxArgs - 1
	maxClauses    = api.MaxArgs - 2
	maxActs       = api.MaxArgs
)

// The atoms with which the tuples of a program begin.
const (
	wordCode  = "code"
	wordBeh   = "beh"
	wordOn    = "on"
	wordSend  = "send"
	wordSpawn = "spawn"
	wordLink  = "link"
	wordStop  = "stop"
)

// isProgram tells whether l is one, but for the terms in it, which are checked
// as parts of the term that tells it.
func isProgram(l []api.Behaviour) bool {
	if len(l) < 1 || len(l) > maxBehaviours {
		return false
	}
	for _, b := range l {
		if !term.IsName(b.Name) || !areClauses(b.Clauses) {
			return false
		}
	}
	return true
}

func areClauses(l []api.Clause) bool {
	if len(l) < 1 || len(l) > maxClauses {
		return false
	}
	for _, c := range l {
		if !areActs(c.Acts) {
			return false
		}
	}
	return true
}

func areActs(l []api.Act) bool {
	if len(l) > maxActs {
		return false
	}
	for _, a := range l {
		if !isAct(a) {
			return false
		}
	}
	return true
}

// isAct tells whether a has a Kind, and nothing that its Kind hasn't.
func isAct(a api.Act) bool {
	switch a.Kind {
	case api.ASend:
		return spawnsNothing(a)
	case api.ASpawn:
		return isNothing(a.To) && term.IsName(a.Name) && 0 <= a.Var && a.Var < api.MaxVar
	case api.ALink:
		return isNothing(a.What) && spawnsNothing(a)
	case api.AStop:
		return isNothing(a.To) && isNothing(a.What) && spawnsNothing(a)
	}
	return false
}

// spawnsNothing tells whether a has nothing of what just a spawn has.
func spawnsNothing(a api.Act) bool { return a.Name == "" && a.Var == 0 }

func isNothing(t api.Term) bool {
	return t.Kind == 0 && t.N == 0 && t.Name == "" && len(t.Args) == 0
}
