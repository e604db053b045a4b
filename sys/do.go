package sys

import (
	"heapmail/api"
	"heapmail/proc"
	"heapmail/term"
)

// Kinds of what happens.
const (
	KindRun     = 1
	KindDeliver = 2
	KindInject  = 3
)

// Do: P16.
func (s *System) Do(x api.Happens) api.Errno {
	switch x.Kind {
	case KindRun:
		return s.run(x.A)
	case KindDeliver:
		return s.arrive(x.A, x.B)
	case KindInject:
		return s.inject(x.A, x.Message)
	}
	return api.ErrArg
}

// run a step of a. Those that it spawns are made ahead of all else: if one of
// them can't be, a ends, and nothing that it did is seen.
func (s *System) run(a int) api.Errno {
	p, ok := s.procs[a]
	if !ok {
		return api.ErrNone
	}
	taken, e := p.Step(s.program, a, s.last+1)
	if e != api.OK {
		return e
	}
	s.tell("take", a, 0, taken.Message)
	spawned, ok := s.made(taken.Spawns)
	switch {
	case taken.Fate == api.EBad || taken.Fate == api.EFull:
		s.end(a, taken.Fate)
	case !ok:
		s.end(a, api.EBad)
	default:
		s.follow(a, taken, spawned)
	}
	return api.OK
}

// made are the processes of l: false, if not all of them may be.
func (s *System) made(l []proc.Spawn) ([]*proc.Proc, bool) {
	if !s.mayHave(len(l)) {
		return nil, false
	}
	var out []*proc.Proc
	for _, x := range l {
		if !s.knows(x.Name) {
			return nil, false
		}
		p, e := proc.New(x.Name, x.State, s.room)
		if e != api.OK {
			return nil, false
		}
		out = append(out, p)
	}
	return out, true
}

// follow a's step, which went well: spawned are those of its Spawns.
func (s *System) follow(a int, taken proc.Taken, spawned []*proc.Proc) {
	for _, p := range spawned {
		s.add(a, p)
	}
	for _, m := range taken.Sends {
		s.send(a, m.To, m.What)
	}
	for _, b := range taken.Links {
		s.link(a, b)
	}
	if taken.Fate == api.EStop {
		s.end(a, api.EStop)
	}
}

func (s *System) send(a, b int, t api.Term) {
	if s.ways.Send(a, b, t) == api.OK {
		s.tell("send", a, b, t)
	} else {
		s.tell("lost", a, b, t)
	}
}

// link a with b. One that links itself is refused by Link, which isn't told.
func (s *System) link(a, b int) {
	if s.isAlive(b) {
		s.bonds.Link(a, b)
	}
}

// arrive: the first message on the way from a to b.
func (s *System) arrive(a, b int) api.Errno {
	t, e := s.ways.Take(a, b)
	if e != api.OK {
		return e
	}
	if s.isAlive(b) {
		s.deliver(a, b, t)
	} else {
		s.tell("lost", a, b, t)
	}
	return api.OK
}

// inject t. It is checked ahead of Deliver, to which a term that is too large
// would be an ErrLarge like that of a mailbox which has no place.
func (s *System) inject(a int, t api.Term) api.Errno {
	if !s.isAlive(a) {
		return api.ErrNone
	}
	if e := term.Check(t); e != api.OK {
		return e
	}
	if !term.Closed(t) {
		return api.ErrForm
	}
	s.deliver(0, a, t)
	return api.OK
}
