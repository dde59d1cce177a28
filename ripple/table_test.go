package ripple_test

import (
	"strings"
	"testing"
)

func TestNewHasNeitherTablesNorViews(t *testing.T) {
	c := newCaller(t)
	c.viewRefused("r", errTable)
	c.feedRefused("+r(1)", errTable)
	c.showRefused(0)
	c.feed("", "")
}

func TestTableNames(t *testing.T) {
	for _, name := range []string{"a", "z", "ab", "abc", "abcd", "zzzz", "i", "t"} {
		c := newCaller(t)
		c.table(name, "i", ok)
		c.view(name, 0, "")
		c.feed("+"+name+"(1)", "(1)*1")
	}
	for _, name := range []string{
		"", "abcde", "A", "Z", "aB", "Ab", "r1", "1", "1r", " ", " r", "r ", "r r", "`", "{", "_", "r,", "r(", "-", "+r",
		"\x00", "r\x00", "\xff", "\u00e9", "abc\u00e9", "ab\x80", strings.Repeat("r", 9_000_000),
	} {
		newCaller(t).table(name, "i", errForm)
	}
}

func TestTableTypes(t *testing.T) {
	for types, row := range map[string]string{
		"i": "(1)", "t": "(a)",
		"ii": "(1,2)", "it": "(1,a)", "ti": "(a,1)", "tt": "(a,b)",
		"iti": "(1,a,2)", "ttt": "(a,b,c)",
		"iiii": "(1,2,3,4)", "tttt": "(a,b,c,d)", "itti": "(1,a,b,2)", "tiit": "(a,1,2,b)",
	} {
		c := newCaller(t, "r:"+types)
		c.view("r", 0, "")
		c.feed("+r"+row, row+"*1")
	}
	for _, types := range []string{
		"", "iiiii", "ttttt", "x", "ix", "xi", "iix", "itix", "I", "T", "h", "j", "s", "u", "i,t", " i", "i ", "0", "\x00", "i\x00",
		"\xff", "\u00ed", strings.Repeat("i", 9_000_000),
	} {
		newCaller(t).table("r", types, errForm)
	}
}

// TestTableFormIsFirst: with no other fault, with too many tables, and with a
// name that is there already.
func TestTableFormIsFirst(t *testing.T) {
	c := newCaller(t, "r:i")
	c.table("r", "x", errForm)
	c.table("r", "", errForm)
	c.table("R", "", errForm)
	for _, name := range []string{"a", "b", "c"} {
		c.table(name, "i", ok)
	}
	c.table("R", "i", errForm)
	c.table("", "i", errForm)
	c.table("d", "x", errForm)
	c.table("r", "iiiii", errForm)
	c.table("abcde", "i", errForm)
}

func TestTableMany(t *testing.T) {
	c := newCaller(t, "a:i", "b:i", "c:i")
	c.table("a", "i", errTable)
	c.table("d", "i", ok)
	c.table("e", "i", errMany)
	c.table("a", "i", errMany) // there already, but that comes behind
	c.table("d", "t", errMany)
}

func TestTableThereAlready(t *testing.T) {
	c := newCaller(t, "r:it", "ab:i")
	c.table("r", "it", errTable)
	c.table("r", "ti", errTable)
	c.table("r", "i", errTable)
	c.table("ab", "i", errTable)
	c.table("a", "i", ok) // the beginning of a name is another name
	c.table("ra", "i", ok)
}

func TestTableRefusedChangesNothing(t *testing.T) {
	c := newCaller(t, "r:it")
	c.view("r", 0, "")
	c.feed("+r(1,a)", "(1,a)*1")

	c.table("r", "ti", errTable)
	c.show(0, "(1,a)*1")
	c.feed("+r(2,b)", "(2,b)*1")
	c.feedRefused("+r(b,2)", errType)

	c.table("q", "x", errForm)
	c.viewRefused("q", errTable)
	c.feedRefused("+q(1)", errTable)
	c.table("q", "i", ok)

	c.table("s", "i", ok)
	c.table("u", "i", ok)
	c.table("v", "i", errMany)
	c.viewRefused("v", errTable)
	c.feedRefused("+v(1)", errTable)
	c.show(0, "(1,a)*1;(2,b)*1")
}

// TestTableRefusedTakesNoPlace: a refused table does not count as one.
func TestTableRefusedTakesNoPlace(t *testing.T) {
	c := newCaller(t, "r:i")
	for range 10 {
		c.table("r", "i", errTable)
		c.table("R", "i", errForm)
		c.table("q", "", errForm)
	}
	for _, name := range []string{"a", "b", "c"} {
		c.table(name, "i", ok)
	}
	c.table("d", "i", errMany)
}

func TestTableIsWithoutRows(t *testing.T) {
	c := newCaller(t, "r:i")
	c.feed("+r(1);+r(1)", "")
	c.table("s", "i", ok)
	c.view("s", 0, "")
	c.view("U(r,s)", 1, "(1)*2")
	c.feedRefused("-s(1)", errMinus)
}

// TestTableBehindViews: a table may come when there are views and rows.
func TestTableBehindViews(t *testing.T) {
	c := newCaller(t, "r:i")
	c.view("r", 0, "")
	c.feed("+r(1)", "(1)*1")
	c.table("a", "i", ok) // a name that is lower than r
	c.view("U(a,r)", 1, "(1)*1")
	c.feed("+a(3);+r(2)", "(2)*1|(2)*1;(3)*1")
	c.show(0, "(1)*1;(2)*1")
	c.show(1, "(1)*1;(2)*1;(3)*1")
}
