package heap

import "strings"

// names of atoms, each with a number of its own.
type names struct {
	list    []string // by number
	numbers map[string]int
}

// number of a name: a new one, if it has none yet. What is kept is a copy: a
// caller's text may be a piece of a great one.
func (l *names) number(name string) int {
	if n, ok := l.numbers[name]; ok {
		return n
	}
	if l.numbers == nil {
		l.numbers = map[string]int{}
	}
	n := len(l.list)
	name = strings.Clone(name)
	l.list = append(l.list, name)
	l.numbers[name] = n
	return n
}

// has tells whether that number was given to a name.
func (l *names) has(n int) bool { return 0 <= n && n < len(l.list) }

// name that has that number, as a copy: what is kept isn't handed out.
func (l *names) name(n int) string { return strings.Clone(l.list[n]) }
