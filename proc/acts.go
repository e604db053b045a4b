package proc

import (
	"strings"

	"heapmail/api"
	"heapmail/match"
	"heapmail/reckon"
)

// doing of a clause's acts: what is bound while they are done, and what comes
// of them.
type doing struct {
	bound      []api.Term
	self, next int
	sends      []Send
	spawns     []Spawn
	links      []int
	stops      bool
}

// all of l are done, in order: false, if one can't be.
func (d *doing) all(l []api.Act) bool {
	for _, a := range l {
		if !d.one(a) {
			return false
		}
	}
	return true
}

// one act, whose Kind is one that there is.
func (d *doing) one(a api.Act) bool {
	switch a.Kind {
	case api.ASend:
		return d.send(a)
	case api.ASpawn:
		return d.spawn(a)
	case api.ALink:
		return d.link(a)
	}
	d.stops = true
	return true
}

func (d *doing) send(a api.Act) bool {
	to, ok := d.process(a.To)
	if !ok {
		return false
	}
	what, ok := d.value(a.What)
	if !ok {
		return false
	}
	d.sends = append(d.sends, Send{To: to, What: what})
	return true
}

// spawn reckons What ahead of binding the variable: the new one doesn't know
// its own number by it.
func (d *doing) spawn(a api.Act) bool {
	state, ok := d.value(a.What)
	if !ok || match.IsBound(d.bound[a.Var]) {
		return false
	}
	d.spawns = append(d.spawns, Spawn{Pid: d.next, Name: strings.Clone(a.Name), State: state})
	d.bound[a.Var] = api.Term{Kind: api.KPid, N: d.next}
	d.next++
	return true
}

func (d *doing) link(a api.Act) bool {
	to, ok := d.process(a.To)
	if !ok {
		return false
	}
	d.links = append(d.links, to)
	return true
}

// process that x's value is: false, if it is none.
func (d *doing) process(x api.Term) (int, bool) {
	v, ok := d.value(x)
	return v.N, ok && v.Kind == api.KPid
}

func (d *doing) value(x api.Term) (api.Term, bool) {
	v, e := reckon.Value(x, d.bound, d.self)
	return v, e == api.OK
}
