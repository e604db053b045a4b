package code

import "heapmail/api"

// tellProgram tells l, a program, as a term, in which l's own terms lie.
func tellProgram(l []api.Behaviour) api.Term {
	parts := []api.Term{atom(wordCode)}
	for _, b := range l {
		parts = append(parts, tellBehaviour(b))
	}
	return tuple(parts...)
}

func tellBehaviour(b api.Behaviour) api.Term {
	parts := []api.Term{atom(wordBeh), atom(b.Name)}
	for _, c := range b.Clauses {
		parts = append(parts, tellClause(c))
	}
	return tuple(parts...)
}

func tellClause(c api.Clause) api.Term {
	var acts []api.Term
	for _, a := range c.Acts {
		acts = append(acts, tellAct(a))
	}
	return tuple(atom(wordOn), c.State, c.Message, tuple(acts...), c.Next)
}

// tellAct tells a, whose Kind is one that there is.
func tellAct(a api.Act) api.Term {
	switch a.Kind {
	case api.ASend:
		return tuple(atom(wordSend), a.To, a.What)
	case api.ASpawn:
		return tuple(atom(wordSpawn), atom(a.Name), a.What, api.Term{Kind: api.KVar, N: a.Var})
	case api.ALink:
		return tuple(atom(wordLink), a.To)
	}
	return tuple(atom(wordStop))
}

func tuple(parts ...api.Term) api.Term { return api.Term{Kind: api.KTuple, Args: parts} }

func atom(name string) api.Term { return api.Term{Kind: api.KAtom, Name: name} }
