package desk_test

import (
	"fmt"
	"math/rand"
	"regexp"
	"strconv"
	"strings"
	"testing"

	"heapmail/api"
	"heapmail/code"
	"heapmail/desk"
	"heapmail/sys"
	"heapmail/term"
)

// forms of the lines, by their words: n and m are numbers in them, t a term.
var forms = map[string]*regexp.Regexp{
	"code":    regexp.MustCompile(`(?s)^code (?P<n>0|[1-9][0-9]?) (?P<t>.*)$`),
	"start":   regexp.MustCompile(`(?s)^start (?P<t>.*)$`),
	"run":     regexp.MustCompile(`^run (?P<n>0|[1-9][0-9]?)$`),
	"deliver": regexp.MustCompile(`^deliver (?P<n>0|[1-9][0-9]?) (?P<m>0|[1-9][0-9]?)$`),
	"inject":  regexp.MustCompile(`(?s)^inject (?P<n>0|[1-9][0-9]?) (?P<t>.*)$`),
	"show":    regexp.MustCompile(`^show (?P<n>0|[1-9][0-9]?)$`),
	"alive":   regexp.MustCompile(`^alive$`),
}

// model of a desk: its system is asked for all events each time, and is tidied now and then, which must not be seen.
type model struct {
	s    *sys.System
	r    *rand.Rand
	seen map[string]int
}

func failed(e api.Errno) string { return fmt.Sprintf("error %d\n", e) }

// parts of a line: its word, numbers, and term.
func parts(line string) (word string, numbers []int, x api.Term, e api.Errno) {
	word = strings.SplitN(line, " ", 2)[0]
	form := forms[word]
	if form == nil || !form.MatchString(line) {
		return "", nil, api.Term{}, api.ErrSyntax
	}
	for i, part := range form.FindStringSubmatch(line) {
		switch form.SubexpNames()[i] {
		case "n", "m":
			n, _ := strconv.Atoi(part)
			numbers = append(numbers, n)
		case "t":
			x, _, e = term.Parse(part)
		}
	}
	return word, numbers, x, e
}

func (m *model) answer(line string) string {
	word, numbers, x, e := parts(line)
	if e != api.OK {
		return failed(e)
	}
	if word == "code" {
		l, e := code.From(x)
		if e != api.OK {
			return failed(e)
		}
		m.s, _ = sys.New(l, numbers[0]*10)
		return "ok\n"
	}
	if m.s == nil {
		return failed(api.ErrNone)
	}
	switch word {
	case "start":
		return m.start(x)
	case "run":
		return m.happens(api.Happens{Kind: 1, A: numbers[0]})
	case "deliver":
		return m.happens(api.Happens{Kind: 2, A: numbers[0], B: numbers[1]})
	case "inject":
		return m.happens(api.Happens{Kind: 3, A: numbers[0], Message: x})
	case "show":
		return m.show(numbers[0])
	}
	out := "alive"
	for _, n := range m.s.Alive() {
		out += fmt.Sprint(" ", n)
	}
	return out + "\n"
}

func (m *model) start(x api.Term) string {
	if x.Kind != api.KTuple || len(x.Args) != 2 || x.Args[0].Kind != api.KAtom {
		return failed(api.ErrForm)
	}
	n, e := m.s.Start(x.Args[0].Name, x.Args[1])
	if e != api.OK {
		return failed(e)
	}
	return fmt.Sprintln(n)
}

func (m *model) happens(x api.Happens) string {
	had := len(m.s.Events())
	if e := m.s.Do(x); e != api.OK {
		return failed(e)
	}
	out := ""
	for _, v := range m.s.Events()[had:] {
		text, _ := term.Print(v.Term)
		if v.What == "end" {
			text = "-"
		}
		out += fmt.Sprintf("%s %d %d %s\n", v.What, v.A, v.B, text)
		m.seen[v.What]++
	}
	return out + "ok\n"
}

func (m *model) show(pid int) string {
	name, state, mail, e := m.s.Proc(pid)
	if e != api.OK {
		return failed(e)
	}
	out := name
	for _, x := range append([]api.Term{state}, mail...) {
		text, _ := term.Print(x)
		out += " " + text
	}
	return out + "\n"
}

// tidy may come whenever.
func (m *model) tidy() {
	for n := 1; m.s != nil && n < 20; n++ {
		if m.r.Intn(2) == 0 {
			m.s.Tidy(n)
		}
	}
}

// note how often a line's word was answered so: by the answer's first word, and with the error's number.
func (m *model) note(line, answer string) {
	word := strings.SplitN(line, " ", 2)[0]
	m.seen[word+" "+strings.Fields(answer)[0]]++
	if strings.HasPrefix(answer, "error") {
		m.seen[word+" "+strings.TrimSpace(answer)]++
	}
}

func (m *model) run(text string) string {
	out := ""
	for _, line := range strings.Split(text, "\n") {
		if line != "" && !strings.HasPrefix(line, "#") {
			answer := m.answer(line)
			m.note(line, answer)
			m.tidy()
			out += answer
		}
	}
	return out
}

func oneOf(r *rand.Rand, l ...string) string { return l[r.Intn(len(l))] }

func randomTerm(r *rand.Rand) string {
	switch r.Intn(9) {
	case 0:
		return oneOf(r, "x", "bad", "stop", "(1 2 3)", "w")
	case 1:
		return oneOf(r, "$0", "(_)", "abcdefghi", "(", "#0", "(((((((((((((1)))))))))))))", sized(1+r.Intn(40)))
	case 2:
		return fmt.Sprintf("(be %d)", r.Intn(9)-4)
	case 3, 4:
		return fmt.Sprintf("(with #%d)", 1+r.Intn(6))
	case 5:
		return fmt.Sprintf("(new %d (n))", r.Intn(9))
	}
	return fmt.Sprintf("(to #%d %s)", 1+r.Intn(6), oneOf(r, "x", "(be (5))", "bad", "(with #1)"))
}

// spawner is another program, in which spawns go well.
const spawner = "(code (beh a (on $3 (to $0 $1) ((send $0 $1)) $3) (on $3 (new $0 $1) ((spawn b $0 $2) (link $2) (send $2 x)) $3) (on _ bad () _) (on _ stop ((stop)) 1)) (beh b (on _ x () _)))"

func randomLine(r *rand.Rand) string {
	switch n := r.Intn(80); {
	case n == 0:
		return fmt.Sprint("code ", r.Intn(10), " ", oneOf(r, program, spawner, spawner, "(code)", "x", "("))
	case n < 13:
		return "start " + oneOf(r, "(a s)", "(a 5)", "(b s)", "(c s)", "a", "(a $0)", "(a "+sized(1+r.Intn(99))+")")
	case n < 30:
		return fmt.Sprint("run ", 1+r.Intn(5))
	case n < 44:
		return fmt.Sprint("deliver ", 1+r.Intn(4), " ", 1+r.Intn(6))
	case n < 66:
		return fmt.Sprint("inject ", 1+r.Intn(5), " ", randomTerm(r))
	case n < 72:
		return fmt.Sprint("show ", 1+r.Intn(5))
	case n < 76:
		return "alive"
	}
	return oneOf(r, "", "#", "# alive", "x 1", "alive ", "run", "show 01", "deliver 1  1", " alive", "inject 1", "start", "code 1")
}

// spoilt is line with a byte more, one less, or another one.
func spoilt(r *rand.Rand, line string) string {
	at := r.Intn(len(line) + 1)
	return line[:at] + oneOf(r, "", " ", "0", "1", "(", ")", "a", "#", "\t", "\xff") + line[min(len(line), at+r.Intn(2)):]
}

// TestAgainstModel runs many texts, most of whose lines are well.
func TestAgainstModel(t *testing.T) {
	seen := map[string]int{}
	for seed := range int64(1500) {
		r := rand.New(rand.NewSource(seed))
		var l []string
		if r.Intn(10) > 0 {
			l = append(l, fmt.Sprint("code ", []int{0, 1, 3, 99}[seed%4], " ", oneOf(r, program, spawner)), "start (a s)", "start (a s)")
		}
		for range r.Intn(150) {
			line := randomLine(r)
			if r.Intn(12) == 0 {
				line = spoilt(r, line)
			}
			l = append(l, line)
		}
		text := lines(l...)
		m := &model{r: r, seen: seen}
		if got, want := desk.Run(text), m.run(text); got != want {
			t.Fatalf("seed %d: Run(%q)\nanswered %q\nwanted   %q", seed, text, got, want)
		}
	}
	for _, s := range []string{
		"take", "spawn", "send", "lost", "end", "code ok", "code error 3", "code error 5", "start error 2", "start error 3", "start error 4", "start error 5", "start error 6", "start 1", "start 5",
		"run take", "run error 3", "run error 4", "deliver ok", "deliver lost", "deliver error 3", "deliver error 4", "inject ok", "inject end",
		"inject error 2", "inject error 3", "inject error 4", "inject error 5", "show a", "show b", "show error 3", "show error 4", "alive alive", "alive error 3", "alive error 4", "x error 3",
	} {
		if seen[s] < 20 {
			t.Error("too few for this to say much:", s, seen[s])
		}
	}
}
