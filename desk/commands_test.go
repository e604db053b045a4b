package desk_test

import (
	"fmt"
	"strings"
	"testing"

	"heapmail/api"
	"heapmail/term"
)

// TestCode: each makes a new system; where it can't be, the old one stays.
func TestCode(t *testing.T) {
	talk(t,
		laid(9), "ok", "alive", "alive", "start (a 1)", "1", "start (b 2)", "2", "alive", "alive 1 2",
		laid(8), "ok", "alive", "alive", "show 1", "error 4", "start (b 3)", "1", "show 1", "b 3",
		"code 1 (code (beh c (on _ _ () 0)))", "ok", "start (b 3)", "error 4", "start (c 3)", "1", "alive", "alive 1")
	for _, text := range []string{
		"a", "code", "()", "(code)", "(code a)", "(code (beh a))", "(code (beh a (on _ _ ())))", "(code (beh 1 (on _ _ () 0)))", "(cod (beh a (on _ _ () 0)))",
		"(code (beh a (on _ _ (stop) 0)))", "(code (beh a (on _ _ ((spawn a 1 2)) 0)))", "$0", "_", "#1", "1",
	} {
		for _, n := range []int{0, 1, 99} {
			everywhere(t, fmt.Sprint("code ", n, " ", text), "error 5")
		}
	}
}

// sized is a closed term of that size: what a tuple has beside its own word is shared out among at most eight parts.
func sized(n int) string {
	many := min(8, n-1)
	parts := make([]string, many)
	for i := range parts {
		parts[i] = "1"
		if share := (n - 1 + i) / many; share > 1 {
			parts[i] = sized(share - 1)
		}
	}
	return "(" + strings.Join(parts, " ") + ")"
}

func TestSized(t *testing.T) {
	for n := 1; n <= 200; n++ {
		if x, _, e := term.Parse(sized(n)); e != api.OK || term.Size(x) != n {
			t.Error(n, sized(n), term.Size(x))
		}
	}
}

// TestCodeRoom is 10 words for each of N, of each process.
func TestCodeRoom(t *testing.T) {
	for _, n := range []int{0, 1, 2, 7, 10, 19} {
		if n == 0 {
			talk(t, laid(n), "ok", "start (a ())", "error 6", "start (a 1)", "1", "inject 1 1", "ok", "inject 1 ()", "end 1 3 -; ok", "alive", "alive")
			continue
		}
		fits, more := sized(10*n), sized(10*n+1)
		talk(t, laid(n), "ok", "start (a "+more+")", "error 6", "start (a "+fits+")", "1", "start (a "+fits+")", "2", "show 2", "a "+fits,
			"inject 1 a", "ok", "inject 1 ()", "end 1 3 -; ok", "alive", "alive 2")
	}
	// 20 messages of 49 words, and a state of 10, are 990 words: just as many as there are with 99.
	in := []string{laid(99), "ok", "start (a " + sized(10) + ")", "1", "start (a " + sized(11) + ")", "2"}
	for range 19 {
		in = append(in, "inject 1 "+sized(49), "ok", "inject 2 "+sized(49), "ok")
	}
	talk(t, append(in, "inject 2 "+sized(49), "end 2 3 -; ok", "inject 1 "+sized(49), "ok", "inject 1 "+sized(49), "lost 0 1 "+sized(49)+"; ok", "alive", "alive 1")...)
}

// TestStart answers the number alone.
func TestStart(t *testing.T) {
	in := []string{laid(5), "ok"}
	for n := 1; n <= 12; n++ {
		in = append(in, fmt.Sprintf("start (%s (s %d))", []string{"a", "b"}[n%2], n), fmt.Sprint(n))
	}
	in = append(in, "start (a 1)", "error 2", "start (x 1)", "error 2", "start (a $0)", "error 2", "start a", "error 5", "start (a", "error 3",
		"show 12", "a (s 12)", "show 11", "b (s 11)", "inject 2 stop", "ok", "run 2", "take 2 0 stop; end 2 1 -; ok", "start (b 1)", "13", "start (b 1)", "error 2",
		"alive", "alive 1 3 4 5 6 7 8 9 10 11 12 13")
	talk(t, in...)
}

func TestStartErrors(t *testing.T) {
	for line, want := range map[string]string{
		"start a":                "error 5",
		"start 1":                "error 5",
		"start #1":               "error 5",
		"start $0":               "error 5",
		"start _":                "error 5",
		"start ()":               "error 5",
		"start (a)":              "error 5",
		"start (a 1 2)":          "error 5",
		"start (a a a a)":        "error 5",
		"start (1 2)":            "error 5",
		"start (#1 2)":           "error 5",
		"start ((a) 2)":          "error 5",
		"start ((a 1))":          "error 5",
		"start ($0 1)":           "error 5",
		"start (_ 1)":            "error 5",
		"start (x 1)":            "error 4",
		"start (x _)":            "error 4",
		"start (code 1)":         "error 4",
		"start (aa 1)":           "error 4",
		"start (a $0)":           "error 5",
		"start (a _)":            "error 5",
		"start (a (1 ($3)))":     "error 5",
		"start (a (_ (#1)))":     "error 5",
		"start (a " + full + ")": "error 6",
		"start (x " + full + ")": "error 4",
	} {
		talkThere(t, line, want, "alive", "alive 1", "start (a 5)", "2", "alive", "alive 1 2")
	}
}

// full has more words than the room of talkThere's system.
var full = sized(91)

// TestRun tells all events of a step, and no other ones.
func TestRun(t *testing.T) {
	talkThere(t,
		"run 1", "error 4",
		"start (a (t))", "2",
		"inject 1 (w)", "ok",
		"run 1", "error 4",
		"inject 1 (be (add 1 2))", "ok",
		"run 1", "take 1 0 (be (add 1 2)); ok",
		"show 1", "a (add 1 2) (w)",
		"inject 1 (to #2 (x -5 #2 ()))", "ok",
		"inject 1 (to #7 y)", "ok",
		"run 1", "take 1 0 (to #2 (x -5 #2 ())); send 1 2 (x -5 #2 ()); ok",
		"run 1", "take 1 0 (to #7 y); send 1 7 y; ok",
		"run 1", "error 4",
		"inject 2 (new (s 1) 2)", "ok",
		"run 2", "take 2 0 (new (s 1) 2); end 2 2 -; ok",
		"run 2", "error 4",
		"alive", "alive 1")
	talk(t,
		"code 9 (code (beh p (on _ (new $0) ((send #1 $0) (spawn q ($0) $1) (send $1 (self)) (spawn p $1 $2) (link $1) (link $2) (stop)) 0)) (beh q (on _ _ () _)))", "ok",
		"start (p 0)", "1", "inject 1 (new n)", "ok",
		"run 1", "take 1 0 (new n); spawn 1 2 (n); spawn 1 3 #2; send 1 1 n; send 1 2 #1; end 1 1 -; ok",
		"alive", "alive 2 3",
		"deliver 1 1", "lost 1 1 n; ok",
		"deliver 1 2", "ok",
		"show 2", "q (n) #1",
		"run 2", "take 2 0 #1; end 2 2 -; ok",
		"alive", "alive 3")
}

// TestEndsAreTold of all that end with one, each on a line.
func TestEndsAreTold(t *testing.T) {
	talkThere(t,
		"start (a 2)", "2", "start (b 3)", "3", "start (b 4)", "4",
		"inject 1 (with #3)", "ok", "run 1", "take 1 0 (with #3); ok",
		"inject 2 (with #3)", "ok", "run 2", "take 2 0 (with #3); ok",
		"inject 1 bad", "ok",
		"run 1", "take 1 0 bad; end 1 2 -; end 3 4 -; end 2 4 -; ok",
		"alive", "alive 4",
		"run 1", "error 4",
		"inject 3 a", "error 4")
}

// TestWayIsFull: what is lost is told, too.
func TestWayIsFull(t *testing.T) {
	in := []string{}
	for n := range 22 {
		in = append(in, fmt.Sprintf("inject 1 (to #1 %d)", n), "ok")
		what := "send"
		if n >= 20 {
			what = "lost"
		}
		in = append(in, "run 1", fmt.Sprintf("take 1 0 (to #1 %d); %s 1 1 %d; ok", n, what, n))
	}
	for n := range 20 {
		in = append(in, "deliver 1 1", "ok")
		if n == 2 {
			in = append(in, "show 1", "a s 0 1 2")
		}
	}
	talkThere(t, append(in, "deliver 1 1", "error 4")...)
}

// TestDeliver: what is delivered has no event of its own; it comes in the order in which it was sent, from A to B.
func TestDeliver(t *testing.T) {
	talkThere(t,
		"start (a 2)", "2",
		"inject 1 (to #2 (m 1))", "ok", "inject 1 (to #2 (m 2))", "ok", "inject 1 (to #3 x)", "ok", "inject 2 (to #2 z)", "ok",
		"run 1", "take 1 0 (to #2 (m 1)); send 1 2 (m 1); ok",
		"run 1", "take 1 0 (to #2 (m 2)); send 1 2 (m 2); ok",
		"run 1", "take 1 0 (to #3 x); send 1 3 x; ok",
		"run 2", "take 2 0 (to #2 z); send 2 2 z; ok",
		"deliver 2 1", "error 4",
		"deliver 1 1", "error 4",
		"deliver 1 2", "ok",
		"show 2", "a 2 (m 1)",
		"deliver 2 2", "ok",
		"deliver 1 2", "ok",
		"deliver 1 2", "error 4",
		"deliver 1 3", "lost 1 3 x; ok",
		"deliver 1 3", "error 4",
		"show 2", "a 2 (m 1) z (m 2)",
		"deliver 0 0", "error 4", "deliver 99 99", "error 4")
}

// TestInject: a mailbox holds 20; in a heap without room the process ends.
func TestInject(t *testing.T) {
	talkThere(t,
		"inject 2 a", "error 4", "inject 0 a", "error 4", "inject 2 $0", "error 4",
		"inject 1 $0", "error 5", "inject 1 (a (_))", "error 5", "inject 1 _", "error 5",
		"inject 1 (1 (2))", "ok", "inject 1 b", "ok", "show 1", "a s (1 (2)) b",
		"inject 1 "+full, "end 1 3 -; ok",
		"inject 1 b", "error 4", "show 1", "error 4", "alive", "alive")
	var in []string
	for range 20 {
		in = append(in, "inject 1 (m)", "ok")
	}
	in = append(in, "inject 1 (n 5)", "lost 0 1 (n 5); ok", "inject 1 n", "lost 0 1 n; ok", "inject 1 $0", "error 5",
		"show 1", "a s"+strings.Repeat(" (m)", 20), "alive", "alive 1")
	talkThere(t, in...)
}

func TestShow(t *testing.T) {
	talkThere(t,
		"show 1", "a s", "show 0", "error 4", "show 2", "error 4", "show 99", "error 4",
		"start (b (1 (-2 #3) ()))", "2",
		"show 2", "b (1 (-2 #3) ())",
		"inject 2 ()", "ok", "inject 2 -1099511627776", "ok", "inject 2 #99", "ok", "inject 2 abcdefgh", "ok",
		"show 2", "b (1 (-2 #3) ()) () -1099511627776 #99 abcdefgh",
		"show 1", "a s")
}

// TestHeapsAreNotSeen: a heap of 30 words is full again and again, and what is told is as with one of 990.
func TestHeapsAreNotSeen(t *testing.T) {
	for _, room := range []int{3, 99} {
		l := []string{laid(room), "ok", "start (a (1 2 3))", "1"}
		for n := range 8 {
			l = append(l, "inject 1 (w)", "ok")
			l = append(l, beNew(n)...)
			l = append(l, "show 1", fmt.Sprintf("a (%d 2 3)%s", n, strings.Repeat(" (w)", n+1)))
		}
		for n := range 60 {
			l = append(l, beNew(n)...)
		}
		talk(t, append(l, "show 1", "a (59 2 3)"+strings.Repeat(" (w)", 8))...)
	}
}

// beNew gives process 1 a new state, which n is in.
func beNew(n int) []string {
	m := fmt.Sprintf("(be (%d 2 3))", n)
	return []string{"inject 1 " + m, "ok", "run 1", "take 1 0 " + m + "; ok"}
}
