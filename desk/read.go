package desk

import (
	"strconv"
	"strings"

	"heapmail/api"
	"heapmail/term"
)

// maxBytes is how long the text of a script may be.
const maxBytes = 65536

// The words with which a line begins.
const (
	wordCode    = "code"
	wordStart   = "start"
	wordRun     = "run"
	wordDeliver = "deliver"
	wordInject  = "inject"
	wordShow    = "show"
	wordAlive   = "alive"
)

// maxNumber is the greatest one of two digits.
const maxNumber = 99

// order is what a line tells.
type order struct {
	word    string
	numbers [2]int // as many as its form has, from the first one on
	term    api.Term
}

// split tells the lines of text. A byte 10 at its end begins no further line;
// an empty text is taken as one empty line, which nobody answers either.
func split(text string) ([]string, api.Errno) {
	if len(text) > maxBytes {
		return nil, api.ErrLarge
	}
	lines := strings.Split(strings.TrimSuffix(text, "\n"), "\n")
	if len(lines) > api.MaxScript {
		return nil, api.ErrLarge
	}
	return lines, api.OK
}

func isAnswered(line string) bool {
	return line != "" && line[0] != '#'
}

// form tells how many numbers, and then how many terms, stand behind word:
// false, if it is none with which a line may begin.
func form(word string) (numbers, terms int, ok bool) {
	switch word {
	case wordAlive:
		return 0, 0, true
	case wordStart:
		return 0, 1, true
	case wordRun, wordShow:
		return 1, 0, true
	case wordCode, wordInject:
		return 1, 1, true
	case wordDeliver:
		return 2, 0, true
	}
	return 0, 0, false
}

// read the order that line tells. The last part takes all that is left, its
// blanks included: a term may have them, and nothing else may.
func read(line string) (order, api.Errno) {
	word, _, _ := strings.Cut(line, " ")
	numbers, terms, ok := form(word)
	if !ok {
		return order{}, api.ErrSyntax
	}
	parts := strings.SplitN(line, " ", 1+numbers+terms)
	if len(parts) != 1+numbers+terms || parts[0] != word {
		return order{}, api.ErrSyntax
	}
	x := order{word: word}
	for i := range numbers {
		if x.numbers[i], ok = number(parts[1+i]); !ok {
			return order{}, api.ErrSyntax
		}
	}
	if terms == 0 {
		return x, api.OK
	}
	var e api.Errno
	x.term, _, e = term.Parse(parts[1+numbers])
	return x, e
}

// number tells the number that s is, if it is one of one or two digits. Told
// again it must be s: with a sign, or with noughts ahead, it isn't.
func number(s string) (int, bool) {
	n, err := strconv.Atoi(s)
	if err != nil || n < 0 || n > maxNumber || strconv.Itoa(n) != s {
		return 0, false
	}
	return n, true
}
