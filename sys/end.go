package sys

import "heapmail/api"

func (s *System) isAlive(x int) bool {
	_, ok := s.procs[x]
	return ok
}

// deliver t, which is a closed term, from a (0, if from nobody) to b, which is
// alive.
func (s *System) deliver(a, b int, t api.Term) {
	switch s.procs[b].Deliver(t) {
	case api.ErrLarge:
		s.tell("lost", a, b, t)
	case api.ErrFull:
		s.end(b, api.EFull)
	}
}

// end x, and those that end with it. What is on the ways is not looked at: it
// stays there.
func (s *System) end(x, how int) {
	s.drop(x, how)
	for _, y := range s.bonds.End(x, how == api.EStop) {
		s.drop(y, api.ELink)
	}
}

func (s *System) drop(x, how int) {
	delete(s.procs, x)
	s.tell("end", x, how, api.Term{})
}
