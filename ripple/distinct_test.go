package ripple_test

import "testing"

func TestBagOfD(t *testing.T) {
	testBags(t, "it", "+r(2,b);+r(1,a);+r(2,b);+r(3,a);+r(2,b)", []bagCase{
		{"D(r)", "(1,a)*1;(2,b)*1;(3,a)*1"},
		{"D(P[1](r))", "(a)*1;(b)*1"},
		{"D(P[1,1](r))", "(a,a)*1;(b,b)*1"},
		{"D(D(r))", "(1,a)*1;(2,b)*1;(3,a)*1"},
		{"D(P[1](D(r)))", "(a)*1;(b)*1"},
		{"P[1](D(r))", "(a)*2;(b)*1"},
		{"D(S[0<#3](r))", "(1,a)*1;(2,b)*1"},
		{"S[0<#3](D(r))", "(1,a)*1;(2,b)*1"},
		{"D(U(r,r))", "(1,a)*1;(2,b)*1;(3,a)*1"},
		{"U(D(r),r)", "(1,a)*2;(2,b)*4;(3,a)*2"},
		{"U(r,D(r))", "(1,a)*2;(2,b)*4;(3,a)*2"},
		{"U(D(r),D(r))", "(1,a)*2;(2,b)*2;(3,a)*2"},
		{"J[0=0](D(P[1](r)),D(P[1](r)))", "(a,a)*1;(b,b)*1"},
		{"J[0=1](D(P[1](r)),r)", "(a,1,a)*1;(a,3,a)*1;(b,2,b)*3"},
		{"D(P[1,3](J[1=1](r,r)))", "(a,a)*1;(b,b)*1"},
		{"G[][n](D(r))", "(3)*1"},
		{"G[1][n](D(r))", "(a,2)*1;(b,1)*1"},
		{"G[1][s0](D(r))", "(a,4)*1;(b,2)*1"},
		{"D(G[1][n](r))", "(a,2)*1;(b,3)*1"},
		{"D(P[0](G[0,1][n](r)))", "(1)*1;(2)*1;(3)*1"},
	})
	testBags(t, "i", "", []bagCase{{"D(r)", ""}})
	testBags(t, "i", several(30, "+r(-9999)"), []bagCase{{"D(r)", "(-9999)*1"}})
}

// TestFeedD: rows that come to be there, rows that are no more, and rows whose
// number of times changes without either.
func TestFeedD(t *testing.T) {
	c := newCaller(t, "r:it")
	c.view("D(r)", 0, "")
	c.view("D(P[1](r))", 1, "")
	for _, x := range []struct{ batch, told string }{
		{"+r(1,a);+r(1,a)", "(1,a)*1|(a)*1"},
		{"+r(1,a)", "|"},
		{"+r(2,a)", "(2,a)*1|"},
		{"-r(1,a);-r(1,a)", "|"},
		{"-r(1,a)", "(1,a)*-1|"},
		{"-r(2,a);+r(3,a)", "(2,a)*-1;(3,a)*1|"},
		{"-r(3,a);+r(3,b)", "(3,a)*-1;(3,b)*1|(a)*-1;(b)*1"},
		{"+r(3,b);-r(3,b)", "|"},
		{"-r(3,b);+r(3,b);+r(3,b);+r(3,b)", "|"},
		{"-r(3,b);-r(3,b)", "|"},
		{"-r(3,b);+r(1,c);+r(1,c);+r(2,c)", "(1,c)*1;(2,c)*1;(3,b)*-1|(b)*-1;(c)*1"},
		{"-r(1,c);-r(1,c);-r(2,c)", "(1,c)*-1;(2,c)*-1|(c)*-1"},
		{"+r(1,a)", "(1,a)*1|(a)*1"}, // what is no more may come again
	} {
		c.feed(x.batch, x.told)
	}
	c.show(0, "(1,a)*1")
	c.show(1, "(a)*1")
}

// TestFeedDOfU: a row that goes from one side and comes to the other stays.
func TestFeedDOfU(t *testing.T) {
	c := newCaller(t, "r:i", "q:i")
	c.view("D(U(r,q))", 0, "")
	c.feed("+r(1);+q(1);+q(2)", "(1)*1;(2)*1")
	c.feed("-r(1)", "")
	c.feed("-q(1);+r(1)", "")
	c.feed("-r(1);+q(1)", "")
	c.feed("-q(2);+r(3)", "(2)*-1;(3)*1")
	c.feed("-q(1);+q(3);-r(3);+r(2)", "(1)*-1;(2)*1")
	c.show(0, "(2)*1;(3)*1")
}

// TestFeedDWithin: what D does not tell, nothing around it tells either.
func TestFeedDWithin(t *testing.T) {
	c := newCaller(t, "r:it")
	c.view("J[0=0](D(P[1](r)),D(P[1](r)))", 0, "")
	c.view("G[][n](D(P[1](r)))", 1, "")
	c.view("U(D(P[1](r)),D(P[1](r)))", 2, "")
	c.feed("+r(1,a);+r(2,a);+r(1,b)", "(a,a)*1;(b,b)*1|(2)*1|(a)*2;(b)*2")
	c.feed("+r(3,a);-r(1,a);+r(1,b)", "||")
	c.feed("-r(1,b)", "||")
	c.feed("-r(1,b)", "(b,b)*-1|(1)*1;(2)*-1|(b)*-2")
	c.feed("-r(2,a);-r(3,a)", "(a,a)*-1|(1)*-1|(a)*-2")
	for n := range 3 {
		c.show(n, "")
	}
}
