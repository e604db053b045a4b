package term

import (
	"strconv"
	"strings"

	"heapmail/api"
)

// Print: P5: the text of t.
func Print(t api.Term) (string, api.Errno) {
	if e := Check(t); e != api.OK {
		return "", e
	}
	// A builder also for a lone atom: its Name itself would be memory that was handed in.
	var b strings.Builder
	write(&b, t)
	return b.String(), api.OK
}

func write(b *strings.Builder, t api.Term) {
	switch t.Kind {
	case api.KInt:
		b.WriteString(strconv.Itoa(t.N))
	case api.KAtom:
		b.WriteString(t.Name)
	case api.KPid:
		b.WriteByte('#')
		b.WriteString(strconv.Itoa(t.N))
	case api.KTuple:
		writeTuple(b, t.Args)
	case api.KVar:
		b.WriteByte('$')
		b.WriteString(strconv.Itoa(t.N))
	case api.KAny:
		b.WriteByte('_')
	}
}

func writeTuple(b *strings.Builder, l []api.Term) {
	b.WriteByte('(')
	for i, a := range l {
		if i > 0 {
			b.WriteByte(' ')
		}
		write(b, a)
	}
	b.WriteByte(')')
}
