package term

import (
	"strings"

	"heapmail/api"
)

// How many digits the numbers in a text may have. That is more than a term
// may hold, so that a number just too great is a matter of form, not of syntax.
const (
	intDigits   = 13
	shortDigits = 2 // of a process's number, and a variable's
)

// Parse: P5: the term that s is the text of. The number tells where an
// ErrSyntax is; it is 0 beside any other answer.
func Parse(s string) (api.Term, int, api.Errno) {
	if len(s) > api.MaxText {
		return api.Term{}, 0, api.ErrLarge
	}
	r := reader{text: s}
	r.next()
	t, ok := r.term()
	if !ok || r.word() != "" {
		return api.Term{}, r.begin, api.ErrSyntax
	}
	if e := Check(t); e != api.OK {
		return api.Term{}, 0, e
	}
	return t, 0, api.OK
}

// reader goes through a text word by word. The word at hand is
// text[begin:end]; it is empty just where the text has ended.
type reader struct {
	text       string
	begin, end int
}

func (r *reader) word() string {
	return r.text[r.begin:r.end]
}

// next takes the word behind the one at hand.
func (r *reader) next() {
	r.begin = r.end
	for r.begin < len(r.text) && r.text[r.begin] == ' ' {
		r.begin++
	}
	r.end = r.begin
	for r.end < len(r.text) && !endsWord(r.text[r.end]) {
		r.end++
	}
	if r.end == r.begin && r.end < len(r.text) {
		r.end++ // a bracket is a word of its own
	}
}

func endsWord(c byte) bool {
	return c == ' ' || c == '(' || c == ')'
}

// term reads the term that begins with the word at hand, and goes on behind
// it. If it fails, the word at hand is the first one that can't stand there.
func (r *reader) term() (api.Term, bool) {
	if r.word() == "(" {
		return r.tuple()
	}
	t, ok := plain(r.word())
	if ok {
		r.next()
	}
	return t, ok
}

func (r *reader) tuple() (api.Term, bool) {
	t := api.Term{Kind: api.KTuple}
	r.next()
	for r.word() != ")" {
		a, ok := r.term()
		if !ok {
			return api.Term{}, false
		}
		t.Args = append(t.Args, a)
	}
	r.next()
	return t, true
}

// plain tells the term that one word is, if it is one.
func plain(w string) (api.Term, bool) {
	if w == "" {
		return api.Term{}, false
	}
	switch w[0] {
	case '_':
		return api.Term{Kind: api.KAny}, w == "_"
	case '#':
		return numbered(api.KPid, w[1:])
	case '$':
		return numbered(api.KVar, w[1:])
	case '-':
		n, ok := number(w[1:], intDigits)
		return api.Term{Kind: api.KInt, N: -n}, ok && n != 0
	}
	if n, ok := number(w, intDigits); ok {
		return api.Term{Kind: api.KInt, N: n}, true
	}
	// A copy, lest the term share memory with the text that was handed in.
	return api.Term{Kind: api.KAtom, Name: strings.Clone(w)}, areLetters(w)
}

func numbered(kind int, digits string) (api.Term, bool) {
	n, ok := number(digits, shortDigits)
	return api.Term{Kind: kind, N: n}, ok
}

// number tells the number that s is, if it is one of at most most digits
// without noughts ahead.
func number(s string, most int) (int, bool) {
	if s == "" || len(s) > most || (s[0] == '0' && s != "0") {
		return 0, false
	}
	n := 0
	for i := 0; i < len(s); i++ {
		if s[i] < '0' || s[i] > '9' {
			return 0, false
		}
		n = 10*n + int(s[i]-'0')
	}
	return n, true
}
