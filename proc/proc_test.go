package proc_test

import (
	"fmt"
	"math"
	"strings"
	"testing"

	"heapmail/api"
	"heapmail/code"
	"heapmail/proc"
	"heapmail/term"
)

func read(t *testing.T, s string) api.Term {
	t.Helper()
	x, at, e := term.Parse(s)
	if e != api.OK {
		t.Fatal(s, at, e)
	}
	return x
}

func text(x api.Term) string {
	s, e := term.Print(x)
	if e != api.OK {
		return fmt.Sprint("error ", e)
	}
	return s
}

// texts of a list, with one blank between.
func texts(l []api.Term) string {
	var out []string
	for _, x := range l {
		out = append(out, text(x))
	}
	return strings.Join(out, " ")
}

func num(n int) api.Term         { return api.Term{Kind: api.KInt, N: n} }
func tup(l ...api.Term) api.Term { return api.Term{Kind: api.KTuple, Args: l} }

// nest lays n tuples of one around x.
func nest(n int, x api.Term) api.Term {
	for range n {
		x = tup(x)
	}
	return x
}

// sized is a term of that size (never 1 less than a tuple can be), as flat as can be.
func sized(size int) api.Term {
	if size == 0 {
		return num(1)
	}
	x := tup(make([]api.Term, min(size-1, 8))...)
	rest := size - 1 - len(x.Args)
	for i := range x.Args {
		share := rest / (len(x.Args) - i)
		x.Args[i] = sized(share)
		rest -= share
	}
	return x
}

// program of the behaviours that s tells.
func program(t *testing.T, s string) []api.Behaviour {
	t.Helper()
	l, e := code.From(read(t, "(code "+s+")"))
	if e != api.OK {
		t.Fatal(s, e)
	}
	return l
}

// made is a process that has that state, and those messages (which s tells with blanks between).
func made(t *testing.T, name, state, mail string, room int) *proc.Proc {
	t.Helper()
	p, e := proc.New(name, read(t, state), room)
	if e != api.OK || p == nil {
		t.Fatal("New", name, state, room, e)
	}
	for _, m := range read(t, "("+mail+")").Args {
		give(t, p, text(m), api.OK)
	}
	return p
}

func give(t *testing.T, p *proc.Proc, s string, want api.Errno) {
	t.Helper()
	if e := p.Deliver(read(t, s)); e != want {
		t.Fatal("Deliver", s, e, "wanted", want)
	}
}

// all that is told of p, but how much it uses.
func all(p *proc.Proc) string {
	return fmt.Sprintf("%s: %s: %s", p.Name(), text(p.State()), texts(p.Mail()))
}

func wantAll(t *testing.T, p *proc.Proc, want string) {
	t.Helper()
	if got := all(p); got != want {
		t.Errorf("told is %q, wanted %q", got, want)
	}
}

func wantUsed(t *testing.T, p *proc.Proc, want int) {
	t.Helper()
	if n := p.Used(); n != want {
		t.Error("Used", n, "wanted", want)
	}
}

func TestNewOne(t *testing.T) {
	for _, name := range []string{"a", "z", "abcdefgh"} {
		for state, used := range map[string]int{"5": 0, "a": 0, "#3": 0, "()": 1, "(a)": 2, "(a (b 5) #3)": 7} {
			p := made(t, name, state, "", 10)
			wantAll(t, p, name+": "+state+": ")
			wantUsed(t, p, used)
			if len(p.Mail()) != 0 {
				t.Error(p.Mail())
			}
		}
	}
}

// wantNoNew: it is refused, and nothing is told beside the error.
func wantNoNew(t *testing.T, name string, state api.Term, room int, want api.Errno) {
	t.Helper()
	if p, e := proc.New(name, state, room); e != want || p != nil {
		t.Errorf("New %q %s %d: %v %v, wanted %v", name, text(state), room, p, e, want)
	}
}

func TestNewErrors(t *testing.T) {
	for _, name := range []string{"", "abcdefghi", "A", "a1", "1", "a b", "a-", "_", "$0", "#1", "\x00", "é", "`", "{", strings.Repeat("a", 100000)} {
		wantNoNew(t, name, num(1), 10, api.ErrForm)
	}
	for _, room := range []int{-1, 1001, math.MinInt, math.MaxInt} {
		wantNoNew(t, "a", num(1), room, api.ErrArg)
	}
	for _, x := range []api.Term{{}, {Kind: 7}, {Kind: -1}, {Kind: api.KAtom}, {Kind: api.KPid}, {Kind: api.KAny}, {Kind: api.KVar}, tup(num(1), api.Term{Kind: api.KVar}), num(1<<40 + 1), {Kind: api.KInt, Name: "a"}, tup(make([]api.Term, 9)...)} {
		wantNoNew(t, "a", x, 1000, api.ErrForm)
	}
	for _, x := range []api.Term{nest(13, num(1)), sized(201)} {
		wantNoNew(t, "a", x, 1000, api.ErrLarge)
	}
}

// TestNewHasRoomOrNot: a state that just fits, and one word less.
func TestNewHasRoomOrNot(t *testing.T) {
	for _, size := range []int{2, 3, 9, 50, 200} {
		if p, e := proc.New("a", sized(size), size); e != api.OK || p.Used() != size {
			t.Error(size, e)
		}
		wantNoNew(t, "a", sized(size), size-1, api.ErrFull)
		wantNoNew(t, "a", sized(size), 0, api.ErrFull)
	}
	made(t, "a", "5", "", 0)
	made(t, "a", "5", "", 1000)
}

// TestNewErrorsInOrder: the name's ahead of the room's ahead of the state's, and of these ErrFull last.
func TestNewErrorsInOrder(t *testing.T) {
	wantNoNew(t, "", api.Term{}, -1, api.ErrForm)
	wantNoNew(t, "A", sized(201), 1001, api.ErrForm)
	wantNoNew(t, "A", sized(201), 0, api.ErrForm)
	wantNoNew(t, "a", api.Term{}, -1, api.ErrArg)
	wantNoNew(t, "a", sized(201), 1001, api.ErrArg)
	wantNoNew(t, "a", sized(201), 0, api.ErrLarge)
	wantNoNew(t, "a", tup(api.Term{Kind: api.KAny}), 0, api.ErrForm)
	wantNoNew(t, "a", tup(num(1)), 0, api.ErrFull)
}

func TestMessagesStandInOrder(t *testing.T) {
	p := made(t, "a", "(s)", "", 20)
	for i, want := range []string{"1", "1 (b)", "1 (b) #3", "1 (b) #3 (b)", "1 (b) #3 (b) ()"} {
		give(t, p, []string{"1", "(b)", "#3", "(b)", "()"}[i], api.OK)
		wantAll(t, p, "a: (s): "+want)
		wantUsed(t, p, []int{2, 4, 4, 6, 7}[i])
	}
}

// TestMailIsFull: twenty is the most, and that is told ahead of all that is wrong with the message.
func TestMailIsFull(t *testing.T) {
	p := made(t, "a", "0", "", 4)
	for range 19 {
		give(t, p, "m", api.OK)
	}
	give(t, p, "(a b c d)", api.ErrFull)
	give(t, p, "(a b c)", api.OK)
	was := all(p)
	for _, x := range []api.Term{num(1), {}, {Kind: api.KAny}, sized(201), read(t, "(a)"), tup(make([]api.Term, 9)...)} {
		if e := p.Deliver(x); e != api.ErrLarge {
			t.Error(text(x), e)
		}
	}
	wantAll(t, p, was)
	wantUsed(t, p, 4)
	if _, e := p.Step(program(t, "(beh a (on _ m () 0))"), 1, 1); e != api.OK {
		t.Fatal(e)
	}
	give(t, p, "n", api.OK)
	give(t, p, "n", api.ErrLarge)
	if n := len(p.Mail()); n != 20 {
		t.Error(n)
	}
}

func TestDeliverErrors(t *testing.T) {
	p := made(t, "a", "(s)", "(m 1) n", 1000)
	for x, want := range map[*api.Term]api.Errno{
		{}: api.ErrForm, {Kind: 7}: api.ErrForm, {Kind: api.KAny}: api.ErrForm, {Kind: api.KVar, N: 3}: api.ErrForm, {Kind: api.KAtom, Name: "abcdefghi"}: api.ErrForm,
		{Kind: api.KTuple, Args: []api.Term{{Kind: api.KAny}}}: api.ErrForm, {Kind: api.KTuple, Args: make([]api.Term, 9)}: api.ErrForm,
		{Kind: api.KTuple, Args: []api.Term{nest(12, num(1))}}: api.ErrLarge, {Kind: api.KTuple, Args: []api.Term{nest(12, api.Term{Kind: api.KAny})}}: api.ErrLarge,
	} {
		if e := p.Deliver(*x); e != want {
			t.Error(text(*x), e, "wanted", want)
		}
		wantAll(t, p, "a: (s): (m 1) n")
		wantUsed(t, p, 5)
	}
	if e := p.Deliver(nest(12, num(1))); e != api.OK {
		t.Error(e)
	}
}

// TestNoRoomAtAll: what is of no size has room in a heap that has none.
func TestNoRoomAtAll(t *testing.T) {
	p := made(t, "a", "s", "m #1 5", 0)
	give(t, p, "()", api.ErrFull)
	if e := p.Deliver(sized(201)); e != api.ErrLarge {
		t.Error(e)
	}
	wantAll(t, p, "a: s: m #1 5")
	wantUsed(t, p, 0)
}

// eaten is a process that has taken those messages, so that there is something to be collected.
func eaten(t *testing.T, state, mail string, room int) *proc.Proc {
	t.Helper()
	p := made(t, "a", state, mail, room)
	for range read(t, "("+mail+")").Args {
		if x, e := p.Step(program(t, "(beh a (on $0 _ () (add a a)))"), 1, 1); e != api.OK || x.Fate != api.EBad {
			t.Fatal(x, e)
		}
	}
	return p
}

// TestCollectedJustWhereFull: Used tells it.
func TestCollectedJustWhereFull(t *testing.T) {
	p := eaten(t, "(s)", "(m 1) (m 2)", 11)
	wantUsed(t, p, 8)
	give(t, p, "(n 1)", api.OK)
	wantUsed(t, p, 11)
	give(t, p, "n", api.OK)
	wantUsed(t, p, 11)
	give(t, p, "()", api.OK)
	wantUsed(t, p, 6)
	wantAll(t, p, "a: (s): (n 1) n ()")
}

// TestDeliverFull: the messages and the state stay, and what is gone is collected, just fits or not.
func TestDeliverFull(t *testing.T) {
	p := eaten(t, "(s (t))", "(m 1) (m 2)", 13)
	give(t, p, "(1 2)", api.OK)
	wantUsed(t, p, 8)
	give(t, p, "(1 2 3 4 5)", api.ErrFull)
	wantAll(t, p, "a: (s (t)): (1 2)")
	wantUsed(t, p, 8)
	give(t, p, "(1 2 3 4)", api.OK)
	wantAll(t, p, "a: (s (t)): (1 2) (1 2 3 4)")
	wantUsed(t, p, 13)
	give(t, p, "()", api.ErrFull)
	give(t, p, "n", api.OK)
	wantAll(t, p, "a: (s (t)): (1 2) (1 2 3 4) n")
	p = eaten(t, "(s)", "(m 1)", 8)
	wantUsed(t, p, 5)
	give(t, p, "(1 2 3 4 5 6)", api.ErrFull)
	wantUsed(t, p, 2)
	wantAll(t, p, "a: (s): ")
}

func TestTidy(t *testing.T) {
	p := eaten(t, "(s (t))", "(m 1) (m 2)", 100)
	give(t, p, "(n (1 #2))", api.OK)
	give(t, p, "b", api.OK)
	give(t, p, "(n (1 #2))", api.OK)
	wantUsed(t, p, 23)
	for range 3 {
		p.Tidy()
		wantAll(t, p, "a: (s (t)): (n (1 #2)) b (n (1 #2))")
		wantUsed(t, p, 17)
	}
	give(t, p, "(c)", api.OK)
	wantUsed(t, p, 19)
	wantAll(t, p, "a: (s (t)): (n (1 #2)) b (n (1 #2)) (c)")
}

// TestAllZero: a Proc that New didn't make answers, too.
func TestAllZero(t *testing.T) {
	var p proc.Proc
	l := program(t, "(beh a (on _ _ () 0))")
	for range 2 {
		p.Tidy()
		if x := p.State(); p.Name() != "" || x.Kind != 0 || p.Used() != 0 {
			t.Error(p.Name(), x, p.Used())
		}
		if _, e := p.Step(l, 1, 1); e != api.ErrNone {
			t.Error(e)
		}
		if e := p.Deliver(tup()); e != api.ErrFull {
			t.Error(e)
		}
		if e := p.Deliver(num(5)); e != api.OK {
			t.Error(e)
		}
	}
	if texts(p.Mail()) != "5 5" {
		t.Error(p.Mail())
	}
}
