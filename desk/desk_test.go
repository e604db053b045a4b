package desk_test

import (
	"fmt"
	"strings"
	"testing"

	"heapmail/desk"
)

// program of behaviours that do what they are told by what they take.
const program = "(code" +
	" (beh a" +
	" (on _ (be $0) () $0)" +
	" (on $3 (to $0 $1) ((send $0 $1)) $3)" +
	" (on $3 (new $0 $1) ((spawn b $0 $2) (spawn a $1 $0) (link $2) (send $2 $0)) $3)" +
	" (on $3 (with $0) ((link $0)) $3)" +
	" (on _ bad () _)" +
	" (on _ stop ((stop)) 0))" +
	" (beh b (on _ x () y)))"

// laid is a line that makes a system of program, with the room that n stands for.
func laid(n int) string { return fmt.Sprintf("code %d %s", n, program) }

// lines are a text: each with a byte 10 behind it.
func lines(l ...string) string {
	if len(l) == 0 {
		return ""
	}
	return strings.Join(l, "\n") + "\n"
}

func wantRun(t *testing.T, text, want string) {
	t.Helper()
	if got := desk.Run(text); got != want {
		t.Errorf("Run(%.300q)\nanswered %.600q\nwanted   %.600q", text, got, want)
	}
}

// talk does lines, each with its answer behind it, at one desk. What is put of several lines has `; ` between them.
func talk(t *testing.T, l ...string) {
	t.Helper()
	var in, want []string
	for i := 0; i < len(l); i += 2 {
		in = append(in, l[i])
		want = append(want, strings.Split(l[i+1], "; ")...)
	}
	wantRun(t, lines(in...), lines(want...))
}

// talkThere is talk at a desk with a system of program, in which a process 1 is, in state s.
func talkThere(t *testing.T, l ...string) {
	t.Helper()
	talk(t, append([]string{laid(9), "ok", "start (a s)", "1"}, l...)...)
}

// everywhere: a line is answered so at a desk without a system, and at one with it; there nothing is changed by it.
func everywhere(t *testing.T, line, want string) {
	t.Helper()
	talk(t, line, want)
	talkThere(t, "inject 1 m", "ok", line, want, "show 1", "a s m", "alive", "alive 1")
}

func TestLinesOfAText(t *testing.T) {
	for text, want := range map[string]string{
		"":                       "",
		"\n":                     "",
		"\n\n\n":                 "",
		"alive":                  "error 4\n",
		"alive\n":                "error 4\n",
		"alive\n\n":              "error 4\n",
		"\nalive":                "error 4\n",
		"alive\nx":               "error 4\nerror 3\n",
		"alive\nx\n":             "error 4\nerror 3\n",
		"\n\nalive\n\n\nx\n\n":   "error 4\nerror 3\n",
		"alive\r\nalive\n":       "error 3\nerror 4\n",
		"alive\ralive":           "error 3\n",
		"alive\x00\nalive":       "error 3\nerror 4\n",
		"\xff\xfe\nalive":        "error 3\nerror 4\n",
		"alive\u2028alive\v\f":   "error 3\n",
		laid(1) + "\nalive":      "ok\nalive\n",
		laid(1) + "\n\n#\nalive": "ok\nalive\n",
	} {
		wantRun(t, text, want)
	}
}

// TestTooManyBytes: 65536 may be.
func TestTooManyBytes(t *testing.T) {
	head := lines(laid(1), "start (a 1)", "alive")
	for _, tail := range []string{"#", "x", " ", "(", "\x00"} {
		wantTail := "error 3\n"
		if tail == "#" {
			wantTail = ""
		}
		fill := strings.Repeat(tail, 65536-len(head))
		wantRun(t, head+fill[1:], "ok\n1\nalive 1\n"+wantTail)
		wantRun(t, head+fill, "ok\n1\nalive 1\n"+wantTail)
		wantRun(t, head+fill[1:]+"\n", "ok\n1\nalive 1\n"+wantTail)
		wantRun(t, head+fill+"\n", "error 2\n")
		wantRun(t, head+fill+tail, "error 2\n")
		wantRun(t, head+strings.Repeat(fill, 4), "error 2\n")
	}
	wantRun(t, strings.Repeat("\n", 65537), "error 2\n")
}

// TestTooManyLines: 200 may be, those that are not answered among them.
func TestTooManyLines(t *testing.T) {
	for _, line := range []string{"", "#", "# no", "alive", "x", " ", laid(1)} {
		answer := ""
		switch line {
		case "alive":
			answer = "error 4\n"
		case "x", " ":
			answer = "error 3\n"
		case laid(1):
			answer = "ok\n"
		}
		text := strings.Repeat(line+"\n", 199)
		want := strings.Repeat(answer, 199)
		wantRun(t, text, want)
		wantRun(t, text+"x", want+"error 3\n")
		wantRun(t, text+"x\n", want+"error 3\n")
		wantRun(t, text+"#", want)
		wantRun(t, text+"\n", want)
		wantRun(t, text+"x\nx", "error 2\n")
		wantRun(t, text+"x\n#", "error 2\n")
		wantRun(t, text+"x\n\n", "error 2\n")
		wantRun(t, text+"\n\n", "error 2\n")
		wantRun(t, text+"\nx", "error 2\n")
		wantRun(t, "\n"+text+"x", "error 2\n")
	}
}

// TestNotAnswered: an empty line, and one that begins with #, does nothing, either.
func TestNotAnswered(t *testing.T) {
	for _, line := range []string{"", "#", "##", "# ", "# no", "#1", "#alive", "# alive", "#" + laid(1), "#\x00\xff"} {
		wantRun(t, line, "")
		wantRun(t, lines(line, line), "")
		wantRun(t, lines(line, "alive", line, laid(1), line, "start (a 1)", line, "alive", line), "error 4\nok\n1\nalive 1\n")
	}
	for _, line := range []string{" ", "  ", " #", " # no", "\t", "\t# no", " alive", "  alive", "\r"} {
		everywhere(t, line, "error 3")
	}
}

func TestFirstWordIsNone(t *testing.T) {
	for _, word := range []string{
		"x", "ok", "error", "Alive", "ALIVE", "aliv", "alives", "alive\t", "alive,", "alive#", "ru", "runs", "tidy", "ways", "events",
		"stop", "spawn", "take", "send", "lost", "end", "codes", "cod", "Start", "star", "starts", "injec", "injects", "delive", "delivers",
		"sho", "shows", "1", "(start", "code\x00", "run\u00a01", "-", "_", "$0", "alive(", "start(a", "alive;alive",
	} {
		for _, rest := range []string{"", " ", " 1", " 1 1", " 1 a", " (a 1)", " " + program, " 1 " + program} {
			everywhere(t, word+rest, "error 3")
		}
	}
}

// TestRestIsNot of the form that its word has.
func TestRestIsNot(t *testing.T) {
	for _, line := range []string{
		"alive ", "alive  ", "alive 1", "alive  1", "alive a", "alive #",
		"run", "run ", "run  ", "run  1", "run 1 ", "run 1  ", "run 1 1", "run 1 a", "run a", "run #1", "run (1)", "run 1\t", "run\t1",
		"show", "show ", "show  ", "show  1", "show 1 ", "show 1 1", "show a", "show #1", "show s",
		"deliver", "deliver ", "deliver  ", "deliver 1", "deliver 1 ", "deliver  1", "deliver 1  ", "deliver 1  1", "deliver  1 1", "deliver 1 1 ",
		"deliver 1 1 1", "deliver 1 1 a", "deliver a 1", "deliver 1 a", "deliver #1 #1", "deliver 1,1", "deliver 1\t1",
		"inject", "inject ", "inject  ", "inject 1", "inject 1 ", "inject 1  ", "inject  1 a", "inject a", "inject a 1", "inject (a)", "inject #1 a",
		"inject 1a", "inject 1(a)", "inject 1\ta", "inject 1 a b", "inject 1 (a", "inject 1 a)",
		"start", "start ", "start  ", "start (a 1", "start a 1)", "start (a 1) 1", "start (a 1))", "start A", "start (a\t1)", "start 1 (a 1)",
		"code", "code ", "code  ", "code 1", "code 1 ", "code 1  ", "code " + program, "code  " + program, "code  1 " + program, "code a " + program,
		"code (1) " + program, "code 1" + program, "code 1\t" + program, "code 1 1 " + program, "code 1 " + program + " 1", "code 1 " + program + ")",
	} {
		everywhere(t, line, "error 3")
	}
}

// TestNumbers: one or two digits, of which the first of two is no nought.
func TestNumbers(t *testing.T) {
	for n := range 100 {
		if n != 1 {
			talkThere(t,
				fmt.Sprint("run ", n), "error 4", fmt.Sprint("show ", n), "error 4", fmt.Sprint("inject ", n, " a"), "error 4",
				fmt.Sprint("deliver 1 ", n), "error 4", fmt.Sprint("deliver ", n, " 1"), "error 4",
				laid(n), "ok", "alive", "alive")
		}
	}
	for _, n := range []string{
		"", "00", "01", "09", "000", "001", "010", "100", "101", "999", "-1", "-0", "+1", "1-", "1.", "1e1", "0x1", "1_0", "_1", "a", "1a", "a1",
		"٣", "１", "1\x00", "\x001", "1\r", "18446744073709551617", strings.Repeat("0", 99) + "1", strings.Repeat("9", 999),
	} {
		everywhere(t, "run "+n, "error 3")
		everywhere(t, "show "+n, "error 3")
		everywhere(t, "deliver 1 "+n, "error 3")
		everywhere(t, "deliver "+n+" 1", "error 3")
		everywhere(t, "inject "+n+" a", "error 3")
		everywhere(t, "code "+n+" "+program, "error 3")
	}
}

// TestTerms: what term.Parse lets go may stand there, with its blanks.
func TestTerms(t *testing.T) {
	talk(t,
		"code 9  ( code(beh   a (on _ _()$0)) ) ", "ok",
		"start  ( a( 1  2 ) ) ", "1",
		"inject 1    (x)  ", "ok",
		"inject 1 -5", "ok",
		"inject 1 (#99 () ((1099511627776)))", "ok",
		"show 1", "a (1 2) (x) -5 (#99 () ((1099511627776)))")
	long := "(" + strings.Repeat(" ", 2046) + ")"
	talkThere(t, "inject 1 "+long, "ok", "show 1", "a s ()", "start (a 5"+long[10:], "2", "show 2", "a 5")
}

// TestTermErrors: those of term.Parse, whatever they are, come ahead of that there is no system.
func TestTermErrors(t *testing.T) {
	long, wide := strings.Repeat(" ", 2048)+"a", "("+strings.Repeat("(1 1 1 1 1 1 1 1) ", 8)+")"
	wide = "(" + strings.Repeat(wide, 3) + ")"
	deep := strings.Repeat("(", 13) + strings.Repeat(")", 13)
	for text, want := range map[string]string{
		long:                       "error 2",
		wide:                       "error 2",
		deep:                       "error 2",
		"(a 5" + long:              "error 2",
		"(1 2 3 4 5 6 7 8 9)":      "error 5",
		"abcdefghi":                "error 5",
		"#0":                       "error 5",
		"$4":                       "error 5",
		"1099511627777":            "error 5",
		"(a " + deep + " #0)":      "error 5",
		"":                         "error 3",
		"(":                        "error 3",
		")":                        "error 3",
		"a b":                      "error 3",
		"(a 01)":                   "error 3",
		"10000000000000":           "error 3",
		"$100":                     "error 3",
		"a\r":                      "error 3",
		"-":                        "error 3",
		"(abcdefghi":               "error 3",
		strings.Repeat("(", 2048):  "error 3",
		strings.Repeat("(", 2049):  "error 2",
		strings.Repeat("(", 60000): "error 2",
	} {
		for _, head := range []string{"start ", "inject 1 ", "inject 9 ", "code 1 "} {
			everywhere(t, head+text, want)
		}
		for _, head := range []string{"inject a ", "inject 100 ", "inject  ", "code 01 ", "code  ", "alive ", "run 1 ", "x "} {
			everywhere(t, head+text, "error 3")
		}
	}
}

// TestNoSystem: that comes ahead of all that the commands themselves would answer.
func TestNoSystem(t *testing.T) {
	for _, line := range []string{
		"alive", "run 0", "run 1", "run 99", "show 1", "show 0", "deliver 1 1", "deliver 0 0", "inject 1 a", "inject 0 (a)", "inject 1 $0", "inject 1 _",
		"start (a 1)", "start a", "start ()", "start (1 2)", "start (a $0)", "start $0",
	} {
		talk(t, line, "error 4", line, "error 4")
		talk(t, "code 1 x", "error 5", line, "error 4", "code 1 (", "error 3", line, "error 4")
	}
}
