package proc

import (
	"slices"

	"heapmail/api"
	"heapmail/code"
	"heapmail/match"
)

// lastNext is the greatest next: as many acts as a clause may have, each of
// them a spawn, come from there just to MaxPid.
const lastNext = api.MaxPid - api.MaxArgs + 1

// Step: P12.
func (p *Proc) Step(l []api.Behaviour, self, next int) (Taken, api.Errno) {
	if _, e := code.To(l); e != api.OK {
		return Taken{}, e
	}
	if self < 1 || self > api.MaxPid || next < 1 || next > lastNext {
		return Taken{}, api.ErrArg
	}
	c, ok := p.choose(clausesOf(l, p.name))
	if !ok {
		return Taken{}, api.ErrNone
	}
	p.mail = slices.Delete(p.mail, c.place, c.place+1)
	d := doing{bound: c.bound, self: self, next: next}
	taken := Taken{Fate: p.follow(c.clause, &d)}
	if taken.Fate == 0 || taken.Fate == api.EStop {
		taken.Sends, taken.Spawns, taken.Links = d.sends, d.spawns, d.links
	}
	taken.Message = c.message
	return taken, api.OK
}

// clausesOf the first behaviour of that name: none, if there is no such one.
func clausesOf(l []api.Behaviour, name string) []api.Clause {
	for _, b := range l {
		if b.Name == name {
			return b.Clauses
		}
	}
	return nil
}

// choice of a message, by its place in the mail, and of the clause that it
// fits, with what is bound by that.
type choice struct {
	place   int
	message api.Term
	clause  api.Clause
	bound   []api.Term
}

// choose the first message that fits one of l, and the first of l that it fits.
func (p *Proc) choose(l []api.Clause) (choice, bool) {
	state := p.State()
	for i, m := range p.Mail() {
		for _, c := range l {
			if bound, ok := fits(c, state, m); ok {
				return choice{place: i, message: m, clause: c, bound: bound}, true
			}
		}
	}
	return choice{}, false
}

// fits tells what is bound where the state fits c's State, and then the message
// c's Message. No error is asked for: c is of a program that was checked, and
// what stood in a heap is closed.
func fits(c api.Clause, state, message api.Term) ([]api.Term, bool) {
	bound, ok, _ := match.Fits(c.State, state, nothingBound())
	if !ok {
		return nil, false
	}
	bound, ok, _ = match.Fits(c.Message, message, bound)
	return bound, ok
}

func nothingBound() []api.Term {
	l := make([]api.Term, api.MaxVar)
	for i := range l {
		l[i] = api.Term{Kind: api.KAny}
	}
	return l
}

// follow c: its acts, and then its Next, which is the state if all goes well.
// The fate is told.
func (p *Proc) follow(c api.Clause, d *doing) int {
	if !d.all(c.Acts) {
		return api.EBad
	}
	next, ok := d.value(c.Next)
	if !ok {
		return api.EBad
	}
	if !p.become(next) {
		return api.EFull
	}
	if d.stops {
		return api.EStop
	}
	return 0
}

// become gives up the state for t: false, if there is no room for t. Then the
// old one is laid again; there is room for it, since it stood there beside the
// same messages.
func (p *Proc) become(t api.Term) bool {
	old := p.State()
	p.state = api.Word{Kind: api.KInt} // a number takes no room
	w, e := p.put(t)
	if e != api.OK {
		w, _ = p.put(old)
	}
	p.state = w
	return e == api.OK
}
