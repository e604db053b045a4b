package desk_test

import (
	"strings"
	"sync"
	"testing"
	"unsafe"

	"heapmail/desk"
)

// all is a text in which each command is answered, and each error.
var all = lines(
	"alive", "x", laid(1), "start (a 1)", "start (b (b))", "start a", "start (abcdefgh 1)", "start (a "+sized(11)+")", "inject 1 abc", "inject 1 (to #2 abc)",
	"run 1", "deliver 1 2", "show 1", "show 2", "inject 1 (with #2)", "run 1", "inject 1 bad", "run 1", "alive", strings.Repeat("x", 3000), "start "+strings.Repeat(" ", 3000))

// TestAnswerIsNewMemory: the text may be overwritten afterwards.
func TestAnswerIsNewMemory(t *testing.T) {
	for _, text := range []string{all, "alive", "x", "code 1 (", strings.Repeat("x", 70000), strings.Repeat("\n", 300)} {
		room := []byte(text)
		handed := unsafe.String(&room[0], len(room))
		got := desk.Run(handed)
		if string(room) != text {
			t.Errorf("%.99q is changed", text)
		}
		was := strings.Clone(got)
		for i := range room {
			room[i] = '!'
		}
		if got != was {
			t.Errorf("%.99q: the answer is changed: %.99q", text, got)
		}
	}
}

// TestAnswersAreApart: no two of them lie in the same place.
func TestAnswersAreApart(t *testing.T) {
	for _, text := range []string{all, "alive", "x", strings.Repeat("x", 70000)} {
		a, b := desk.Run(text), desk.Run(text)
		if a != b || unsafe.StringData(a) == unsafe.StringData(b) {
			t.Errorf("%.99q: %.99q %.99q", text, a, b)
		}
	}
}

// TestNothingIsKept from call to call: each has a desk of its own.
func TestNothingIsKept(t *testing.T) {
	want := desk.Run(all)
	for _, text := range []string{laid(9), lines(laid(9), "start (a 1)", "inject 1 bad"), strings.Repeat("x", 70000), all} {
		desk.Run(text)
		wantRun(t, "alive\nstart (a 1)\nrun 1", "error 4\nerror 4\nerror 4\n")
		wantRun(t, all, want)
	}
}

// TestManyAtOnce: desks have nothing to do with each other.
func TestManyAtOnce(t *testing.T) {
	want := desk.Run(all)
	var wait sync.WaitGroup
	for range 8 {
		wait.Go(func() {
			for range 20 {
				if got := desk.Run(all); got != want {
					t.Error(got)
				}
			}
		})
	}
	wait.Wait()
}
