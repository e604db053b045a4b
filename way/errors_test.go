package way_test

import (
	"testing"

	"heapmail/api"
	"heapmail/term"
	"heapmail/way"
)

// nest lays n tuples of one around x.
func nest(n int, x api.Term) api.Term {
	for range n {
		x = tup(x)
	}
	return x
}

// sized is a term of that size (never 1 less than a tuple can be), as flat as can be.
func sized(size int) api.Term {
	if size == 0 {
		return num(1)
	}
	x := tup(make([]api.Term, min(size-1, 8))...)
	rest := size - 1 - len(x.Args)
	for i := range x.Args {
		share := rest / (len(x.Args) - i)
		x.Args[i] = sized(share)
		rest -= share
	}
	return x
}

// wantRefused: that error, and all ways are as they were.
func wantRefused(t *testing.T, w *way.Ways, a, b int, x api.Term, want api.Errno) {
	t.Helper()
	was := ways(w)
	if e := w.Send(a, b, x); e != want || ways(w) != was {
		t.Errorf("from %d to %d: error %d, wanted %d: %q, was %q", a, b, e, want, ways(w), was)
	}
}

// crowded are ways with 20 on that from 1 to 2, and one on that from 1 to 1.
func crowded(t *testing.T) *way.Ways {
	t.Helper()
	w := way.New()
	for range 20 {
		send(t, w, 1, 2, "a")
	}
	send(t, w, 1, 1, "b")
	return w
}

// noTerms are values that term.Check doesn't let go, each with its error.
func noTerms() map[api.Errno][]api.Term {
	free := api.Term{Kind: api.KAny}
	return map[api.Errno][]api.Term{
		api.ErrForm: {
			{}, {Kind: -1}, {Kind: 7}, {Kind: api.KInt, N: api.MaxInt + 1}, {Kind: api.KInt, N: -api.MaxInt - 1}, {Kind: api.KInt, Name: "a"},
			{Kind: api.KAtom}, {Kind: api.KAtom, Name: "abcdefghi"}, {Kind: api.KAtom, Name: "A"}, {Kind: api.KAtom, Name: "a", N: 1},
			{Kind: api.KPid}, {Kind: api.KPid, N: 100}, {Kind: api.KVar, N: 4}, {Kind: api.KAny, N: 1},
			{Kind: api.KTuple, N: 1}, {Kind: api.KTuple, Name: "a"}, tup(make([]api.Term, 9)...),
			tup(num(1), tup(api.Term{})), nest(13, api.Term{}), tup(free, api.Term{Kind: 9}), nest(1<<16, api.Term{}),
		},
		api.ErrLarge: {
			nest(13, num(1)), nest(13, free), nest(12, tup()), sized(201), sized(1000), tup(sized(199), free), nest(1<<16-1, num(1)),
		},
	}
}

// notClosed are terms with a variable, or one that fits all, somewhere.
func notClosed(t *testing.T) []api.Term {
	t.Helper()
	l := []api.Term{nest(12, api.Term{Kind: api.KAny}), tup(sized(197), read(t, "_"))}
	for _, s := range []string{"_", "$0", "$3", "(_)", "($0)", "(a (b 1 $2) c)", "(1 2 3 4 5 6 7 _)", "(_ 1)"} {
		l = append(l, read(t, s))
	}
	return l
}

func TestNoProcess(t *testing.T) {
	w := way.New()
	for _, n := range strangers() {
		for _, m := range append(strangers(), 1, 2, 99) {
			wantRefused(t, w, n, m, num(1), api.ErrArg)
			wantRefused(t, w, m, n, num(1), api.ErrArg)
		}
	}
	for _, a := range []int{1, 2, 98, 99} {
		for _, b := range []int{1, 2, 98, 99} {
			send(t, w, a, b, "a")
			wantTaken(t, w, a, b, "a")
		}
	}
}

func TestNoTerm(t *testing.T) {
	for _, w := range []*way.Ways{way.New(), crowded(t)} {
		for want, l := range noTerms() {
			for _, x := range l {
				if e := term.Check(x); e != want {
					t.Fatal(e, want)
				}
				wantRefused(t, w, 3, 4, x, want)
				wantRefused(t, w, 1, 1, x, want)
			}
		}
	}
}

func TestNotClosed(t *testing.T) {
	for _, w := range []*way.Ways{way.New(), crowded(t)} {
		for _, x := range notClosed(t) {
			if e := term.Check(x); e != api.OK {
				t.Fatal(text(x), e)
			}
			wantRefused(t, w, 3, 4, x, api.ErrForm)
			wantRefused(t, w, 1, 1, x, api.ErrForm)
		}
	}
}

// TestLargest: what term.Check just lets go is sent, and comes whole.
func TestLargest(t *testing.T) {
	w := way.New()
	l := []api.Term{sized(200), nest(12, num(1)), nest(11, tup())}
	for _, x := range l {
		if e := w.Send(1, 2, x); e != api.OK {
			t.Error(e)
		}
	}
	for _, x := range l {
		wantTaken(t, w, 1, 2, text(x))
	}
}

// TestArgIsFirst: ahead of all that is wrong with a term.
func TestArgIsFirst(t *testing.T) {
	w := crowded(t)
	for _, x := range append(notClosed(t), append(noTerms()[api.ErrForm], noTerms()[api.ErrLarge]...)...) {
		wantRefused(t, w, 0, 2, x, api.ErrArg)
		wantRefused(t, w, 1, 100, x, api.ErrArg)
	}
}

// TestFullIsLast: of a way that has 20 messages, too, what is wrong with the term is told.
func TestFullIsLast(t *testing.T) {
	w := crowded(t)
	for _, x := range append(notClosed(t), noTerms()[api.ErrForm]...) {
		wantRefused(t, w, 1, 2, x, api.ErrForm)
	}
	wantRefused(t, w, 1, 2, num(1), api.ErrLarge)
	wantRefused(t, w, 1, 2, sized(200), api.ErrLarge)
	wantTaken(t, w, 1, 2, "a")
	send(t, w, 1, 2, "z")
	wantRefused(t, w, 1, 2, num(1), api.ErrLarge)
}
