package ripple_test

import (
	"strings"
	"testing"

	"ripple/ripple"
)

func TestFeedLong(t *testing.T) {
	c := newCaller(t, "r:ii")
	c.view("r", 0, "")
	batch := several(43, "+r(1,2)") // 343 bytes
	c.feedRefused(batch, errLong)
	c.feedRefused(batch[:301], errLong)
	c.feedRefused(batch[:300], errForm)
	c.feedRefused(strings.Repeat("+", 300), errForm)
	c.feedRefused(strings.Repeat("+", 301), errLong)
	c.feedRefused(strings.Repeat("\u00e9", 150), errForm)
	c.feedRefused(strings.Repeat("\u00e9", 151), errLong) // 151 letters, but 302 bytes
	c.feedRefused(strings.Repeat("+r(1,2);", 10_000_000), errLong)
	c.show(0, "")

	most := several(36, "+r(1,2)") + ";+r(10,-100)" // 287 + 12 bytes
	c.feedRefused(most+"00", errLong)
	if len(most) != 299 {
		t.Fatalf("most has %d bytes", len(most))
	}
	c.feedRefused(most+";", errForm)
	c.feedRefused(most+";;", errLong)
	c.feed(strings.Replace(most, "10,", "100,", 1), "(1,2)*36;(100,-100)*1") // 300
	c.feedRefused(strings.Replace(most, "10,", "1000,", 1), errLong)
	c.show(0, "(1,2)*36;(100,-100)*1")
}

// TestCallsTellALongTextByItsLength: as TestCheckTellsALongTextByItsLength.
func TestCallsTellALongTextByItsLength(t *testing.T) {
	c := newCaller(t, "r:i")
	letters := strings.Repeat("i", 40_000_000)
	changes := strings.Repeat("+r(1);", 7_000_000)
	for range 200_000 {
		c.feedRefused(changes, errLong)
		c.viewRefused(letters, errLong)
		c.table(letters, "i", errForm)
		c.table("i", letters, errForm)
		if t.Failed() {
			return
		}
	}
}

func TestFeedForm(t *testing.T) {
	c := newCaller(t, "r:it")
	for _, batch := range []string{
		" ", ";", ";;", "+", "-", "*", "r", "(", "(1,a)", "r(1,a)", "*r(1,a)", "=r(1,a)", "++r(1,a)", "+-r(1,a)", "-+r(1,a)",
		"+(1,a)", "+R(1,a)", "+r1(1,a)", "+1(1,a)", "+rrrrr(1,a)", "+r (1,a)", "+ r(1,a)", " +r(1,a)",
		"+r", "+r(", "+r)", "+r()", "+r(1", "+r(1,", "+r(1,a", "+r1,a)", "+r[1,a]", "+r(1,a]", "+r((1,a))", "+r(1;a)", "+r(1 a)",
		"+r(,a)", "+r(1,)", "+r(1,,a)", "+r(,)", "+r(1, a)", "+r( 1,a)", "+r(1,a )", "+r(1a)", "+r(a1)",
		"+r(01,a)", "+r(00,a)", "+r(-0,a)", "+r(-01,a)", "+r(--1,a)", "+r(+1,a)", "+r(-,a)", "+r(1-,a)", "+r(1.0,a)", "+r(#1,a)", "+r(10000,a)", "+r(-10000,a)", "+r(99999,a)",
		"+r(1,abcde)", "+r(1,A)", "+r(1,aB)", "+r(1,a_)", "+r(1,$a)", "+r(1,\u00e9)", "+r(1,-a)",
		"+r(1,a);", ";+r(1,a)", "+r(1,a);;+r(1,a)", "+r(1,a)+r(1,a)", "+r(1,a),+r(1,a)", "+r(1,a)|+r(1,a)", "+r(1,a) ;+r(1,a)", "+r(1,a); +r(1,a)", "+r(1,a);r(1,a)",
		"+r(1,a)*2", "+r(1,a))", "+r(1,a)(", "+r(1,a)\n", "+r(1,a)\x00", "\x00", "+r(1,a\x00)", "\xff", "+r(1,a);\xff",
	} {
		c.feedRefused(batch, errForm)
	}
	c.view("r", 0, "")
}

func TestFeedTableThereIsNot(t *testing.T) {
	c := newCaller(t, "r:it", "ab:i")
	for _, batch := range []string{"+x(1,a)", "-x(1,a)", "+a(1)", "+abc(1)", "+rr(1,a)", "+r(1,a);+x(1,a)", "+x(1,a);+r(1,a)", "+x(1);-x(1)"} {
		c.feedRefused(batch, errTable)
	}
	c.view("r", 0, "")
}

func TestFeedRowOfOtherTypes(t *testing.T) {
	c := newCaller(t, "r:it", "s:ti", "w:iiii", "i:i")
	for _, batch := range []string{
		"+r(1)", "+r(a)", "+r(1,a,a)", "+r(1,a,1,a)", "+r(1,1)", "+r(a,a)", "+r(a,1)", "-r(1)", "-r(a,1)",
		"+s(1,a)", "+s(a)", "+w(1,2,3)", "+w(1,2,3,4,5)", "+w(1,2,3,a)", "+w(a,2,3,4)", "+i(a)", "+i(1,1)",
		"+r(1,a);+r(1)", "+r(1);+r(1,a)", "+r(1,a);+s(1,a)",
		"+i(1,2,3,4,5,6,7)", "+i" + strings.Replace("("+strings.Repeat(",1", 140)+")", "(,", "(", 1),
		"+r(1);-r(1)", // nothing is left of it, but it does not fit
	} {
		c.feedRefused(batch, errType)
	}
	c.view("r", 0, "")
}

func TestFeedMinus(t *testing.T) {
	c := newCaller(t, "r:it", "q:it")
	c.view("U(r,q)", 0, "")
	c.feed("+r(5,x);+r(6,y);+r(6,y)", "(5,x)*1;(6,y)*2")
	for _, batch := range []string{
		"-r(7,z)", "-r(5,y)", "-r(6,x)", "-q(5,x)", "-r(5,x);-r(5,x)", "-r(6,y);-r(6,y);-r(6,y)",
		"+r(5,x);-r(5,x);-r(5,x);-r(5,x)", "+q(5,x);-r(5,x);-r(5,x)", "+r(1,a);-r(7,z)", "-r(7,z);+r(1,a)", "-r(5,x);-q(5,x)",
	} {
		c.feedRefused(batch, errMinus)
	}
	c.show(0, "(5,x)*1;(6,y)*2")
	c.feed("-r(6,y);-r(6,y);-r(5,x)", "(5,x)*-1;(6,y)*-2")
	c.feedRefused("-r(5,x)", errMinus)
	c.show(0, "")
}

// TestFeedOnlyWhatIsLeftCounts: rows that come and go in one batch.
func TestFeedOnlyWhatIsLeftCounts(t *testing.T) {
	c := newCaller(t, "r:it", "q:it")
	c.view("r", 0, "")
	c.view("U(r,q)", 1, "")
	c.feed("-r(9,b);+r(9,b)", "|")
	c.feed("+r(9,b);-r(9,b)", "|")
	c.feed("-r(9,b);-r(9,b);+r(9,b);+r(9,b)", "|")
	c.feed("-r(9,b);+r(9,b);+r(9,b)", "(9,b)*1|(9,b)*1")
	c.feed("-r(9,b);+r(9,b);-r(9,b)", "(9,b)*-1|(9,b)*-1")
	c.feed("+q(9,b);-r(8,a);+r(8,a)", "|(9,b)*1")
	c.feedRefused("+r(9,b);-q(9,b);-q(9,b)", errMinus) // each table by itself
	c.feed("+r(9,b);-q(9,b)", "(9,b)*1|")
	c.feed("+q(1,a);-r(9,b);+r(2,a);-q(1,a)", "(2,a)*1;(9,b)*-1|(2,a)*1;(9,b)*-1")
	c.show(0, "(2,a)*1")
}

func TestFeedFull(t *testing.T) {
	c := newCaller(t, "r:i", "q:i", "s:t", "w:it")
	c.view("r", 0, "")
	c.feed(several(50, "+r(1)"), "(1)*50")
	c.feedRefused(several(11, "+q(1)"), errFull)
	c.feed(several(8, "+q(1)")+";+s(a)", "")
	c.feedRefused("+r(1);+w(1,a)", errFull)
	c.feed("+w(1,a)", "") // the sixtieth
	for _, batch := range []string{"+r(1)", "+r(2)", "+q(1)", "+s(b)", "+w(1,a)", "+w(2,b);+w(3,c);-q(1)", "+r(1);+r(1);-r(1)"} {
		c.feedRefused(batch, errFull)
	}
	c.show(0, "(1)*50")
	c.feed("", "")
	c.feed("+r(1);-r(1)", "")
	c.feed("+r(2);-r(1)", "(1)*-1;(2)*1")
	c.feed("+w(2,b);-q(1)", "")
	c.feed(several(10, "+r(3);-r(1)"), "(1)*-10;(3)*10")
	c.feedRefused("+s(b)", errFull)
	c.feed("-s(a)", "")
	c.feed("+s(b)", "")
	c.feedRefused("+s(c)", errFull)
	c.show(0, "(1)*39;(2)*1;(3)*10")
}

// TestFeedFullCountsRowsAndNotViews: what a query makes of the rows is no row
// of a table.
func TestFeedFullCountsRowsAndNotViews(t *testing.T) {
	c := newCaller(t, "r:i")
	c.view("U(r,r)", 0, "")
	c.view("r", 1, "")
	c.feed(several(50, "+r(1)"), "(1)*100|(1)*50")
	c.feed(several(10, "+r(2)"), "(2)*20|(2)*10")
	c.feedRefused("+r(3)", errFull)
}

// TestFeedWhichErrorIsFirst: each two errors that can apply to one batch, the
// one behind the other and ahead of it.
func TestFeedWhichErrorIsFirst(t *testing.T) {
	c := newCaller(t, "r:it", "q:it")
	c.feed(several(37, "+r(1,a)"), "")
	c.feed(several(22, "+r(1,a)")+";+q(2,b)", "")
	// form: of no batch it is not told what is in it
	for _, batch := range []string{
		"+x(1,a);+r(1,a", "+r(1,a;+x(1,a)", "+x(1,a);", "+r(1);", "+r(1);+R(1,a)", "-r(7,z);", "-r(7,z);+r(01,a)", "+r(1,a);", "+r(1,a);+r(1,a)+r(1,a)",
	} {
		c.feedRefused(batch, errForm)
		c.feedRefused(batch+strings.Repeat(";", 301), errLong)
	}
	for _, batch := range []string{
		"+r(1);+x(1,a)", "+x(1,a);+r(1)", "+x(1)", // types
		"-r(7,z);+x(1,a)", "+x(1,a);-r(7,z)", "-x(1,a)", // minus
		"+r(1,a);+x(1,a)", "+x(1,a);+r(1,a)", "+x(1,a)", // full
		"+r(1);-r(7,z);+r(1,a);+x(1,a)",
	} {
		c.feedRefused(batch, errTable)
	}
	for _, batch := range []string{
		"-r(7,z);+r(a,1)", "+r(a,1);-r(7,z)", "-r(7)", // minus
		"+r(1,a);+r(a,1)", "+r(a,1);+r(1,a)", "+r(1)", // full
		"+r(1,a);-r(7,z);+q(1)",
	} {
		c.feedRefused(batch, errType)
	}
	for _, batch := range []string{"+r(1,a);+r(1,a);-r(7,z)", "-r(7,z);+r(1,a);+r(1,a)", "+r(1,a);+r(1,a);-q(2,b);-q(2,b)", "-q(1,a);+r(1,a);+r(1,a)"} {
		c.feedRefused(batch, errMinus)
	}
	c.feedRefused("+r(1,a)", errFull)
	c.view("U(r,q)", 0, "(1,a)*59;(2,b)*1")
}

// TestFeedRefusedChangesNothing: Show and the next Feed tell it.
func TestFeedRefusedChangesNothing(t *testing.T) {
	c := newCaller(t, "r:it", "q:it")
	c.view("r", 0, "")
	c.view("U(P[1](r),P[1](q))", 1, "")
	c.feed("+r(1,a);+q(1,b)", "(1,a)*1|(a)*1;(b)*1")
	for range 3 {
		c.feedRefused("+r(2,b);-r(1,a);"+strings.Repeat("+r(2,b);", 40), errLong)
		c.feedRefused("+r(2,b);-r(1,a);", errForm)
		c.feedRefused("+r(2,b);-r(1,a);+x(1,a)", errTable)
		c.feedRefused("+r(2,b);-r(1,a);+q(1)", errType)
		c.feedRefused("+r(2,b);-r(1,a);-q(1,a)", errMinus)
		c.feedRefused("+q(2,b);-r(1,a);-r(1,a)", errMinus)
		c.show(0, "(1,a)*1")
		c.show(1, "(a)*1;(b)*1")
		c.feed("", "|")
	}
	c.feed(several(37, "+q(1,b)"), "|(b)*37")
	for range 3 {
		c.feedRefused("-r(1,a);+r(2,b);"+several(22, "+q(3,c)"), errFull) // 61
		c.show(0, "(1,a)*1")
		c.show(1, "(a)*1;(b)*38")
		c.feed("", "|")
	}
	c.feed("-r(1,a);+r(2,b);"+several(21, "+q(3,c)"), "(1,a)*-1;(2,b)*1|(a)*-1;(b)*1;(c)*21")
}

// TestFeedRefusedChangesNoJDOrG: not even what they remember, as the batch
// behind it tells.
func TestFeedRefusedChangesNoJDOrG(t *testing.T) {
	c := newCaller(t, "r:it", "s:ti")
	c.view("J[1=0](r,s)", 0, "")
	c.view("D(P[1](r))", 1, "")
	c.view("G[1][s0](r)", 2, "")
	c.view("G[][n](J[1=0](r,s))", 3, "")
	c.view("J[0=0](r,r)", 4, "")
	c.feed("+r(1,a);+r(1,a);+s(a,5);+s(a,5)", "(1,a,a,5)*4|(a)*1|(a,2)*1|(4)*1|(1,a,1,a)*4")
	for _, x := range []struct {
		batch string
		want  ripple.Errno
	}{
		{"+r(2,b);-r(1,a);" + strings.Repeat("+s(a,5);", 40), errLong},
		{"+r(2,b);-r(1,a);+s(a,5);", errForm},
		{"+r(2,b);-r(1,a);+s(a,5);+x(1,a)", errTable},
		{"+r(2,b);-r(1,a);+s(a,5);+s(5,a)", errType},
		{"+r(2,b);-r(1,a);+s(a,5);-s(b,5)", errMinus},
		{"-s(a,5);+r(2,b);-r(1,a);-r(1,a);-r(1,a)", errMinus},
	} {
		c.feedRefused(x.batch, x.want)
		for n, shown := range []string{"(1,a,a,5)*4", "(a)*1", "(a,2)*1", "(4)*1", "(1,a,1,a)*4"} {
			c.show(n, shown)
		}
		c.feed("", "||||")
		c.feed("+r(1,a)", "(1,a,a,5)*2||(a,2)*-1;(a,3)*1|(4)*-1;(6)*1|(1,a,1,a)*5")
		c.feed("-r(1,a)", "(1,a,a,5)*-2||(a,2)*1;(a,3)*-1|(4)*1;(6)*-1|(1,a,1,a)*-5")
	}
	c.feed(several(37, "+r(1,b)"), "|(b)*1|(b,37)*1||(1,a,1,b)*74;(1,b,1,a)*74;(1,b,1,b)*1369")
	c.feedRefused("-r(1,a);"+several(21, "+s(b,5)"), errFull) // 61
	c.feed("-r(1,a)", "(1,a,a,5)*-2||(a,1)*1;(a,2)*-1|(2)*1;(4)*-1|(1,a,1,a)*-3;(1,a,1,b)*-37;(1,b,1,a)*-37")
	c.feed(several(20, "+s(b,5)"), "(1,b,b,5)*740|||(2)*-1;(742)*1|") // 60
}

func TestFeedOfTheEmptyBatch(t *testing.T) {
	c := newCaller(t)
	c.feed("", "")
	c.table("r", "it", ok)
	c.feed("", "")
	c.view("r", 0, "")
	c.feed("", "")
	c.view("r", 1, "")
	c.feed("", "|")
	c.feed("+r(1,a)", "(1,a)*1|(1,a)*1")
	c.view("r", 2, "(1,a)*1")
	c.feed("", "||")
	c.show(2, "(1,a)*1")
	sixViews(t).feed("", "|||||")
}

func TestFeedWithoutViews(t *testing.T) {
	c := newCaller(t, "r:it")
	c.feed("+r(1,a);+r(2,b)", "")
	c.feed("-r(1,a)", "")
	c.feedRefused("-r(1,a)", errMinus)
	c.feed("+r(3,c)", "")
	c.view("r", 0, "(2,b)*1;(3,c)*1")
}

func TestFeedSeveralTables(t *testing.T) {
	c := newCaller(t, "r:it", "s:ti", "q:it", "w:i")
	c.view("r", 0, "")
	c.view("s", 1, "")
	c.view("U(r,q)", 2, "")
	c.view("U(P[0](q),w)", 3, "")
	c.feed("+s(a,1);+r(1,a);+q(2,b);+r(3,c);+w(2);+s(b,-1);+q(1,a)",
		"(1,a)*1;(3,c)*1|(a,1)*1;(b,-1)*1|(1,a)*2;(2,b)*1;(3,c)*1|(1)*1;(2)*2")
	c.feed("-q(1,a);-w(2);+r(1,a)", "(1,a)*1|||(1)*-1;(2)*-1")
	c.feed("-s(a,1)", "|(a,1)*-1||")
	c.feed("+w(7)", "|||(7)*1")
	c.show(0, "(1,a)*2;(3,c)*1")
	c.show(1, "(b,-1)*1")
	c.show(2, "(1,a)*2;(2,b)*1;(3,c)*1")
	c.show(3, "(2)*1;(7)*1")
}

// TestFeedTellsWhatChangesInTheView: rows of tables that change may leave the
// view as it is.
func TestFeedTellsWhatChangesInTheView(t *testing.T) {
	c := newCaller(t, "r:it")
	c.view("P[0](r)", 0, "")
	c.view("S[0<#2](r)", 1, "")
	c.view("U(P[0](S[1=$a](r)),P[0](S[1=$b](r)))", 2, "")
	c.feed("+r(1,a);+r(2,a)", "(1)*1;(2)*1|(1,a)*1|(1)*1;(2)*1")
	c.feed("-r(1,a);+r(1,b)", "|(1,a)*-1;(1,b)*1|")
	c.feed("-r(2,a);+r(2,c)", "||(2)*-1")
	c.feed("-r(2,c);+r(3,c);+r(1,c)", "(1)*1;(2)*-1;(3)*1|(1,c)*1|")
	c.feed("-r(3,c)", "(3)*-1||")
}

// TestFeedThatEndsInNothing (P8): neither Show nor the next Feed tells of it.
func TestFeedThatEndsInNothing(t *testing.T) {
	c := newCaller(t, "r:it", "q:it")
	c.view("r", 0, "")
	c.view("U(P[0](r),P[0](q))", 1, "")
	c.feed("+r(1,a);+r(1,a);+q(2,b)", "(1,a)*2|(1)*2;(2)*1")
	for _, batch := range []string{"", "-r(1,a);+r(1,a)", "+r(1,a);-r(1,a)", "+r(9,z);-r(9,z)", "-q(7,z);+r(7,z);+q(7,z);-r(7,z)", "-r(1,a);-q(2,b);-r(1,a);+q(2,b);+r(1,a);+r(1,a)"} {
		c.feed(batch, "|")
		c.show(0, "(1,a)*2")
		c.show(1, "(1)*2;(2)*1")
		c.feed("", "|")
	}
	c.feedRefused("-r(9,z)", errMinus)
	c.feed("-r(1,a);-r(1,a);-q(2,b)", "(1,a)*-2|(1)*-2;(2)*-1")
}
