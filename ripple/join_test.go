package ripple_test

import (
	"strconv"
	"testing"
	"time"
)

func TestBagOfJ(t *testing.T) {
	testBags(t, "it", "+r(1,a);+r(1,b);+r(2,a);+r(1,a)", []bagCase{
		{"J[0=0](r,r)", "(1,a,1,a)*4;(1,a,1,b)*2;(1,b,1,a)*2;(1,b,1,b)*1;(2,a,2,a)*1"},
		{"J[1=1](r,r)", "(1,a,1,a)*4;(1,a,2,a)*2;(1,b,1,b)*1;(2,a,1,a)*2;(2,a,2,a)*1"},
	})
	// The columns that are compared may be anywhere on either side.
	testBags(t, "iti", "+r(1,a,2);+r(2,b,2);+r(3,c,1)", []bagCase{
		{"J[0=2](r,r)", "(1,a,2,3,c,1)*1;(2,b,2,1,a,2)*1;(2,b,2,2,b,2)*1"},
		{"J[2=0](r,r)", "(1,a,2,2,b,2)*1;(2,b,2,2,b,2)*1;(3,c,1,1,a,2)*1"},
		{"J[2=2](r,r)", "(1,a,2,1,a,2)*1;(1,a,2,2,b,2)*1;(2,b,2,1,a,2)*1;(2,b,2,2,b,2)*1;(3,c,1,3,c,1)*1"},
		{"J[0=0](r,P[2,1](r))", "(1,a,2,1,c)*1;(2,b,2,2,a)*1;(2,b,2,2,b)*1"},
		{"J[0=0](P[2,1](r),r)", "(1,c,1,a,2)*1;(2,a,2,b,2)*1;(2,b,2,b,2)*1"},
	})
	// Equal is the whole value: neither a part of it nor another of its kind.
	testBags(t, "it", "+r(1,a);+r(-1,ab);+r(10,abc);+r(0,abcd);+r(-10,b)", []bagCase{
		{"J[0=0](P[0](r),P[0](r))", "(-10,-10)*1;(-1,-1)*1;(0,0)*1;(1,1)*1;(10,10)*1"},
		{"J[0=0](P[1](r),P[1](r))", "(a,a)*1;(ab,ab)*1;(abc,abc)*1;(abcd,abcd)*1;(b,b)*1"},
	})
	testBags(t, "ii", "+r(1,2);+r(3,4);+r(3,4)", []bagCase{{"J[0=1](r,r)", ""}})
}

func TestBagOfJAndOtherQueries(t *testing.T) {
	testBags(t, "it", "+r(1,a);+r(1,b);+r(2,a);+r(1,a)", []bagCase{
		{"J[0=0](S[1=$a](r),r)", "(1,a,1,a)*4;(1,a,1,b)*2;(2,a,2,a)*1"},
		{"J[0=0](r,S[1=$a](r))", "(1,a,1,a)*4;(1,b,1,a)*2;(2,a,2,a)*1"},
		{"J[0=0](P[0](r),P[0](r))", "(1,1)*9;(2,2)*1"},
		{"J[0=1](P[0](r),P[1,0](r))", "(1,a,1)*6;(1,b,1)*3;(2,a,2)*1"},
		{"J[0=0](U(r,r),r)", "(1,a,1,a)*8;(1,a,1,b)*4;(1,b,1,a)*4;(1,b,1,b)*2;(2,a,2,a)*2"},
		{"J[0=0](P[0](r),U(P[0](r),P[0](r)))", "(1,1)*18;(2,2)*2"},
		{"J[0=0](D(r),r)", "(1,a,1,a)*2;(1,a,1,b)*1;(1,b,1,a)*2;(1,b,1,b)*1;(2,a,2,a)*1"},
		{"J[0=0](r,D(r))", "(1,a,1,a)*2;(1,a,1,b)*2;(1,b,1,a)*1;(1,b,1,b)*1;(2,a,2,a)*1"},
		{"J[0=0](G[0][n](r),r)", "(1,3,1,a)*2;(1,3,1,b)*1;(2,1,2,a)*1"},
		{"J[0=1](r,G[1][n](r))", "(1,a,b,1)*2;(1,b,b,1)*1"}, // how many are in a group is a column to be compared

		{"P[1,3](J[0=0](r,r))", "(a,a)*5;(a,b)*2;(b,a)*2;(b,b)*1"},
		{"S[1<3](J[0=0](r,r))", "(1,a,1,b)*2"},
		{"S[1=3](J[0=0](r,r))", "(1,a,1,a)*4;(1,b,1,b)*1;(2,a,2,a)*1"},
		{"U(J[0=0](r,r),J[0=0](r,r))", "(1,a,1,a)*8;(1,a,1,b)*4;(1,b,1,a)*4;(1,b,1,b)*2;(2,a,2,a)*2"},
		{"U(P[0,1](J[0=0](r,r)),r)", "(1,a)*8;(1,b)*4;(2,a)*2"},
		{"D(J[0=0](r,r))", "(1,a,1,a)*1;(1,a,1,b)*1;(1,b,1,a)*1;(1,b,1,b)*1;(2,a,2,a)*1"},
		{"G[0][n](J[0=0](r,r))", "(1,9)*1;(2,1)*1"},
		{"G[][s2](J[0=0](r,r))", "(11)*1"},
	})
}

func TestBagOfJOfJ(t *testing.T) {
	testBags(t, "it", "+r(1,a);+r(1,b);+r(2,a);+r(1,a)", []bagCase{
		{"J[1=1](J[0=0](r,r),r)", "(1,a,1,a,1,a)*8;(1,a,1,a,2,a)*4;(1,a,1,b,1,a)*4;(1,a,1,b,2,a)*2;(1,b,1,a,1,b)*2;(1,b,1,b,1,b)*1;(2,a,2,a,1,a)*2;(2,a,2,a,2,a)*1"},
		{"J[3=1](J[0=0](r,r),r)", "(1,a,1,a,1,a)*8;(1,a,1,a,2,a)*4;(1,a,1,b,1,b)*2;(1,b,1,a,1,a)*4;(1,b,1,a,2,a)*2;(1,b,1,b,1,b)*1;(2,a,2,a,1,a)*2;(2,a,2,a,2,a)*1"},
		{"J[1=3](r,J[0=0](r,r))", "(1,a,1,a,1,a)*8;(1,a,1,b,1,a)*4;(1,a,2,a,2,a)*2;(1,b,1,a,1,b)*2;(1,b,1,b,1,b)*1;(2,a,1,a,1,a)*4;(2,a,1,b,1,a)*2;(2,a,2,a,2,a)*1"},
		{"J[0=0](J[0=0](P[0](r),P[0](r)),P[0](r))", "(1,1,1)*27;(2,2,2)*1"},
		{"J[0=1](P[0](r),J[0=0](P[0](r),P[0](r)))", "(1,1,1)*27;(2,2,2)*1"},
		{"J[0=0](P[0](J[0=0](r,r)),P[0](r))", "(1,1)*27;(2,2)*1"},
		{"U(J[0=0](r,r),J[1=1](r,r))", "(1,a,1,a)*8;(1,a,1,b)*2;(1,a,2,a)*2;(1,b,1,a)*2;(1,b,1,b)*2;(2,a,1,a)*2;(2,a,2,a)*2"},
	})
}

// TestFeedJ: batches that change one side, the other, and both at once.
func TestFeedJ(t *testing.T) {
	c := newCaller(t, "r:it", "s:ti")
	c.view("J[1=0](r,s)", 0, "")
	for _, x := range []struct{ batch, told, shown string }{
		{"+r(1,a)", "", ""},
		{"+s(b,5)", "", ""},
		{"+s(a,5)", "(1,a,a,5)*1", "(1,a,a,5)*1"},
		{"+r(2,a);+s(a,6)", "(1,a,a,6)*1;(2,a,a,5)*1;(2,a,a,6)*1", "(1,a,a,5)*1;(1,a,a,6)*1;(2,a,a,5)*1;(2,a,a,6)*1"},
		{"+r(1,a)", "(1,a,a,5)*1;(1,a,a,6)*1", "(1,a,a,5)*2;(1,a,a,6)*2;(2,a,a,5)*1;(2,a,a,6)*1"},
		{"-r(2,a);-s(a,6)", "(1,a,a,6)*-2;(2,a,a,5)*-1;(2,a,a,6)*-1", "(1,a,a,5)*2"},
		{"-s(a,5);-r(1,a);+r(1,b)", "(1,a,a,5)*-2;(1,b,b,5)*1", "(1,b,b,5)*1"},
		{"-r(1,b);+s(b,5)", "(1,b,b,5)*-1", ""},
		{"+r(1,b);-s(b,5);-s(b,5);+s(a,7);-r(1,a);+r(3,a)", "(3,a,a,7)*1", "(3,a,a,7)*1"},
		{"+s(b,5);-s(a,7)", "(1,b,b,5)*1;(3,a,a,7)*-1", "(1,b,b,5)*1"},
		{"-r(1,b);+r(1,b);+s(b,5);-s(b,5)", "", "(1,b,b,5)*1"},
		{"-r(1,b);+r(3,b);-s(b,5);+s(b,4)", "(1,b,b,5)*-1;(3,b,b,4)*1", "(3,b,b,4)*1"},
		{"-r(3,b);-r(3,a);-s(b,4)", "(3,b,b,4)*-1", ""},
		{"+s(b,4)", "", ""}, // what went from a side is no more met
		{"+r(3,a)", "", ""},
	} {
		c.feed(x.batch, x.told)
		c.show(0, x.shown)
	}
}

// TestFeedJOfRowsThereSeveralTimes: the two numbers times one another.
func TestFeedJOfRowsThereSeveralTimes(t *testing.T) {
	c := newCaller(t, "r:it", "s:ti")
	c.view("J[1=0](r,s)", 0, "")
	c.feed(several(3, "+r(1,a)")+";"+several(4, "+s(a,5)"), "(1,a,a,5)*12")
	c.feed("-r(1,a);+s(a,5)", "(1,a,a,5)*-2")
	c.feed("+r(1,a);-s(a,5)", "(1,a,a,5)*2")
	c.feed("+r(1,a);-s(a,5)", "") // 4 times 3 is 3 times 4
	c.show(0, "(1,a,a,5)*12")
	c.feed(several(4, "-r(1,a)"), "(1,a,a,5)*-12")
	c.feed(several(30, "+s(a,5)"), "")
	c.feed(several(27, "+r(1,a)"), "(1,a,a,5)*891")
	c.feed(several(33, "-s(a,5)")+";+s(b,5)", "(1,a,a,5)*-891")
	c.show(0, "")
}

// TestFeedJOfATableWithItself: both sides change by one change.
func TestFeedJOfATableWithItself(t *testing.T) {
	c := newCaller(t, "r:it")
	c.view("J[0=0](r,r)", 0, "")
	c.view("J[0=0](P[0](r),P[0](r))", 1, "")
	c.view("J[0=0](P[0](r),J[0=0](P[0](r),P[0](r)))", 2, "")
	c.feed("+r(1,a)", "(1,a,1,a)*1|(1,1)*1|(1,1,1)*1")
	c.feed("+r(1,b)", "(1,a,1,b)*1;(1,b,1,a)*1;(1,b,1,b)*1|(1,1)*3|(1,1,1)*7")
	c.feed("+r(1,a)", "(1,a,1,a)*3;(1,a,1,b)*1;(1,b,1,a)*1|(1,1)*5|(1,1,1)*19")
	c.feed("-r(1,a);+r(1,c)", "(1,a,1,a)*-3;(1,a,1,b)*-1;(1,a,1,c)*1;(1,b,1,a)*-1;(1,b,1,c)*1;(1,c,1,a)*1;(1,c,1,b)*1;(1,c,1,c)*1||")
	c.feed("-r(1,a);-r(1,b);+r(2,a)", "(1,a,1,a)*-1;(1,a,1,b)*-1;(1,a,1,c)*-1;(1,b,1,a)*-1;(1,b,1,b)*-1;(1,b,1,c)*-1;(1,c,1,a)*-1;(1,c,1,b)*-1;(2,a,2,a)*1|(1,1)*-8;(2,2)*1|(1,1,1)*-26;(2,2,2)*1")
	c.show(0, "(1,c,1,c)*1;(2,a,2,a)*1")
	c.show(1, "(1,1)*1;(2,2)*1")
	c.show(2, "(1,1,1)*1;(2,2,2)*1")
	c.feed("-r(1,c);-r(2,a)", "(1,c,1,c)*-1;(2,a,2,a)*-1|(1,1)*-1;(2,2)*-1|(1,1,1)*-1;(2,2,2)*-1")
}

// TestFeedJOfThreeTables: each of the three changes by itself, and all at once.
func TestFeedJOfThreeTables(t *testing.T) {
	c := newCaller(t, "r:it", "s:ti", "q:ii")
	c.view("J[3=0](J[1=0](r,s),q)", 0, "")
	c.view("J[1=0](r,J[1=0](s,q))", 1, "")
	c.feed("+r(1,a);+q(5,9)", "|")
	c.feed("+s(a,5)", "(1,a,a,5,5,9)*1|(1,a,a,5,5,9)*1")
	c.feed("+q(5,8)", "(1,a,a,5,5,8)*1|(1,a,a,5,5,8)*1")
	c.feed("+r(2,a);+r(3,b)", "(2,a,a,5,5,8)*1;(2,a,a,5,5,9)*1|(2,a,a,5,5,8)*1;(2,a,a,5,5,9)*1")
	c.feed("+r(2,b);+s(b,6);+q(6,6)", "(2,b,b,6,6,6)*1;(3,b,b,6,6,6)*1|(2,b,b,6,6,6)*1;(3,b,b,6,6,6)*1")
	c.feed("-r(2,a);-s(b,6);+s(b,5);-q(5,9)",
		"(1,a,a,5,5,9)*-1;(2,a,a,5,5,8)*-1;(2,a,a,5,5,9)*-1;(2,b,b,5,5,8)*1;(2,b,b,6,6,6)*-1;(3,b,b,5,5,8)*1;(3,b,b,6,6,6)*-1|"+
			"(1,a,a,5,5,9)*-1;(2,a,a,5,5,8)*-1;(2,a,a,5,5,9)*-1;(2,b,b,5,5,8)*1;(2,b,b,6,6,6)*-1;(3,b,b,5,5,8)*1;(3,b,b,6,6,6)*-1")
	for n := range 2 {
		c.show(n, "(1,a,a,5,5,8)*1;(2,b,b,5,5,8)*1;(3,b,b,5,5,8)*1")
	}
}

// TestJOfAllRowsThereMayBe: as many rows as two joins can make of a table's.
func TestJOfAllRowsThereMayBe(t *testing.T) {
	c := newCaller(t, "r:i")
	c.view("J[0=0](r,J[0=0](r,r))", 0, "")
	c.feed(several(50, "+r(7)"), "(7,7,7)*125000")
	c.feed(several(10, "+r(7)"), "(7,7,7)*91000")
	c.show(0, "(7,7,7)*216000")
	c.view("J[0=0](U(r,r),J[0=0](U(r,r),U(r,r)))", 1, "(7,7,7)*1728000")
	c.feed("-r(7);+r(8)", "(7,7,7)*-10621;(8,8,8)*1|(7,7,7)*-84968;(8,8,8)*8")
	c.feed(several(49, "-r(7)"), "(7,7,7)*-204379|(7,7,7)*-1635032")
	c.show(0, "(7,7,7)*1000;(8,8,8)*1")
	c.show(1, "(7,7,7)*8000;(8,8,8)*8")
}

// TestFeedWorksOnChangesAlone: one row of a batch is not met by the many rows
// that stay as they are. To reckon these anew with each batch would take hours.
func TestFeedWorksOnChangesAlone(t *testing.T) {
	c := newCaller(t, "r:ii")
	for n := range 59 {
		c.feed("+r(1,"+strconv.Itoa(n)+")", "")
	}
	c.view("G[][n](D(J[0=0](r,J[0=0](r,r))))", 0, "(205379)*1")
	began := time.Now()
	for range 20_000 {
		c.feed("+r(2,0)", "(205379)*-1;(205380)*1")
		c.feed("-r(2,0)", "(205379)*1;(205380)*-1")
		if t.Failed() || time.Since(began) > time.Minute {
			t.Fatal("told wrong, or not within a minute")
		}
	}
}
