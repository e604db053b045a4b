package term_test

import (
	"reflect"
	"regexp"
	"strings"
	"testing"
	"unsafe"

	"heapmail/api"
	"heapmail/term"
)

func TestPrint(t *testing.T) {
	cases := []struct {
		x    api.Term
		want string
	}{
		{num(0), "0"}, {num(-5), "-5"}, {num(1 << 40), "1099511627776"}, {num(-1 << 40), "-1099511627776"},
		{atom("abcdefgh"), "abcdefgh"}, {pid(1), "#1"}, {pid(99), "#99"}, {variable(0), "$0"}, {variable(3), "$3"}, {wild(), "_"},
		{tup(), "()"}, {tup(atom("a")), "(a)"}, {tup(atom("a"), num(5)), "(a 5)"}, {tup(tup(), tup(wild()), pid(2)), "(() (_) #2)"},
	}
	for _, c := range cases {
		if s, e := term.Print(c.x); e != api.OK || s != c.want {
			t.Error(s, e, c.want)
		}
	}
	if s, e := term.Print(nest(13, num(1))); e != api.ErrLarge || s != "" {
		t.Error(s, e)
	}
}

func TestParse(t *testing.T) {
	cases := map[string]api.Term{
		"0": num(0), "  -5 ": num(-5), "1099511627776": num(1 << 40), "-1099511627776": num(-1 << 40),
		"a": atom("a"), " abcdefgh": atom("abcdefgh"), "#1": pid(1), "#99": pid(99), "$0": variable(0), "_": wild(),
		"()": tup(), "(   )": tup(), "  (a 5)  ": tup(atom("a"), num(5)), "(  a    5  )": tup(atom("a"), num(5)),
		"((a)(b))": tup(tup(atom("a")), tup(atom("b"))), "(a()5(_)#2)": tup(atom("a"), tup(), num(5), tup(wild()), pid(2)),
		"((((((((((((a))))))))))))": nest(12, atom("a")),
		"(1 2 3 4 5 6 7 8)":         tup(num(1), num(2), num(3), num(4), num(5), num(6), num(7), num(8)),
	}
	for s, want := range cases {
		x, at, e := term.Parse(s)
		if e != api.OK || at != 0 || !reflect.DeepEqual(x, want) {
			t.Errorf("%q: %v %d %v", s, x, at, e)
		}
	}
}

func TestParseTellsWhereItFails(t *testing.T) {
	cases := []struct {
		s    string
		at   int
		want api.Errno
	}{
		{"", 0, api.ErrSyntax}, {"   ", 3, api.ErrSyntax}, {"(", 1, api.ErrSyntax}, {"(a  ", 4, api.ErrSyntax}, {"((a)", 4, api.ErrSyntax},
		{")", 0, api.ErrSyntax}, {"a)", 1, api.ErrSyntax}, {"()) (", 2, api.ErrSyntax}, {"a b", 2, api.ErrSyntax}, {"a(b)", 1, api.ErrSyntax},
		{"(a) ?", 4, api.ErrSyntax}, {"(A) ?", 1, api.ErrSyntax}, {"(a bC d)", 3, api.ErrSyntax},
		{"a1", 0, api.ErrSyntax}, {"1a", 0, api.ErrSyntax}, {"a-b", 0, api.ErrSyntax}, {"a\t", 0, api.ErrSyntax}, {"(a\nb)", 1, api.ErrSyntax}, {"(a \x00)", 3, api.ErrSyntax}, {"ä", 0, api.ErrSyntax},
		{"-", 0, api.ErrSyntax}, {"--1", 0, api.ErrSyntax}, {"+1", 0, api.ErrSyntax}, {"-0", 0, api.ErrSyntax}, {"-01", 0, api.ErrSyntax}, {"00", 0, api.ErrSyntax}, {"(1 02)", 3, api.ErrSyntax},
		{"9999999999999", 0, api.ErrForm}, {"-9999999999999", 0, api.ErrForm}, {"10000000000000", 0, api.ErrSyntax}, {" -10000000000000", 1, api.ErrSyntax}, {strings.Repeat("9", 2048), 0, api.ErrSyntax},
		{"1099511627777", 0, api.ErrForm}, {"-1099511627777", 0, api.ErrForm},
		{"#", 0, api.ErrSyntax}, {"# 1", 0, api.ErrSyntax}, {"#0", 0, api.ErrForm}, {"#01", 0, api.ErrSyntax}, {"#00", 0, api.ErrSyntax}, {"#-1", 0, api.ErrSyntax}, {"#100", 0, api.ErrSyntax}, {"#a", 0, api.ErrSyntax}, {"#$1", 0, api.ErrSyntax},
		{"$", 0, api.ErrSyntax}, {"$4", 0, api.ErrForm}, {"$99", 0, api.ErrForm}, {"$00", 0, api.ErrSyntax}, {"$-1", 0, api.ErrSyntax}, {"$100", 0, api.ErrSyntax},
		{"__", 0, api.ErrSyntax}, {"_a", 0, api.ErrSyntax}, {"a_", 0, api.ErrSyntax},
		{"  abcdefghi", 0, api.ErrForm}, {"(1 2 3 4 5 6 7 8 9)", 0, api.ErrForm},
		{" " + strings.Repeat("(", 13) + strings.Repeat(")", 13), 0, api.ErrLarge}, {strings.Repeat("(", 13) + "#0" + strings.Repeat(")", 13), 0, api.ErrForm},
		{strings.Repeat("(", 1024) + strings.Repeat(")", 1024), 0, api.ErrLarge}, {strings.Repeat("(", 2048), 2048, api.ErrSyntax},
		{"a" + strings.Repeat(" ", 2047), 0, api.OK}, {"a" + strings.Repeat(" ", 2048), 0, api.ErrLarge}, {strings.Repeat("?", 2049), 0, api.ErrLarge},
	}
	for _, c := range cases {
		x, at, e := term.Parse(c.s)
		if e != c.want || at != c.at {
			t.Errorf("%q: %d %v, not %d %v", c.s, at, e, c.at, c.want)
		}
		if e != api.OK && !reflect.DeepEqual(x, api.Term{}) {
			t.Errorf("%q: %v beside an error", c.s, x)
		}
	}
}

func TestTextOfTheLargest(t *testing.T) {
	holdsItsText(t, sized(3))
	s, _ := term.Print(sized(3))
	if x, at, e := term.Parse("(1 " + s[1:]); e != api.ErrLarge || at != 0 || x.Kind != 0 {
		t.Error(x, at, e)
	}
	if s, e := term.Print(sized(4)); e != api.ErrLarge || s != "" {
		t.Error(s, e)
	}
}

var (
	words = regexp.MustCompile(`[()]|[^ ()]+`)
	leaf  = regexp.MustCompile(`^(_|[a-z]+|0|-?[1-9][0-9]{0,12}|[#$](0|[1-9][0-9]?))$`)
)

// fault tells where a text's first fault is, or -1: another way to it than the program's.
func fault(s string) int {
	open, done := 0, false
	for _, w := range words.FindAllStringIndex(s, -1) {
		switch word := s[w[0]:w[1]]; {
		case done, word == ")" && open == 0, word != "(" && word != ")" && !leaf.MatchString(word):
			return w[0]
		case word == "(":
			open++
		case word == ")":
			open--
		}
		done = open == 0
	}
	if !done {
		return len(s)
	}
	return -1
}

// TestParseOfAllShortTexts holds every text of up to 5 of these bytes against fault.
func TestParseOfAllShortTexts(t *testing.T) {
	var try func(s string)
	try = func(s string) {
		x, at, e := term.Parse(s)
		want := fault(s)
		if (e == api.ErrSyntax) != (want >= 0) || at != max(want, 0) {
			t.Fatalf("%q: %d %v, not %d", s, at, e, want)
		}
		if e == api.OK {
			holdsItsText(t, x)
		}
		for i := 0; i < len("() a10-#$_") && len(s) < 5; i++ {
			try(s + "() a10-#$_"[i:i+1])
		}
	}
	try("")
}

func holdsItsText(t *testing.T, x api.Term) {
	t.Helper()
	s, e := term.Print(x)
	y, at, f := term.Parse(s)
	if e != api.OK || f != api.OK || at != 0 || term.Order(x, y) != 0 {
		t.Fatalf("%v prints as %q, and that is read as %v: %v %v", x, s, y, e, f)
	}
}

func within(s, whole string) bool {
	at, from := uintptr(unsafe.Pointer(unsafe.StringData(s))), uintptr(unsafe.Pointer(unsafe.StringData(whole)))
	return at >= from && at < from+uintptr(len(whole))
}

// TestAnswersAreNewMemory holds P2 for texts, and for lists with the room behind them.
func TestAnswersAreNewMemory(t *testing.T) {
	s := strings.Clone("(abc (def 1 2) (ghi 3) 4 5)")
	x, _, _ := term.Parse(s)
	if within(x.Args[0].Name, s) || within(x.Args[1].Args[0].Name, s) {
		t.Error("a name lies in the text")
	}
	name := strings.Clone("abcdefgh")
	if u, _ := term.Print(atom(name)); within(u, name) {
		t.Error("the text lies in the name")
	}
	y, _, _ := term.Parse(s)
	for _, l := range [][]api.Term{x.Args[1].Args, x.Args[2].Args} {
		for i := range l[:cap(l)] {
			l[:cap(l)][i] = num(-1)
		}
	}
	if u, _ := term.Print(x); u != "(abc (-1 -1 -1) (-1 -1) 4 5)" {
		t.Error("lists of one answer share memory", u)
	}
	if u, _ := term.Print(y); u != s {
		t.Error("two answers share memory", u)
	}
}
