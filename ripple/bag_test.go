package ripple_test

import (
	"strings"
	"testing"
)

type bagCase struct {
	query, told string
}

// testBags holds each query's bag over one table r, to which rows come by the
// batch, against what it must be: when the rows come ahead of the view, when
// they come behind it, and when they come one by one. Then they go likewise.
func testBags(t *testing.T, types, batch string, cases []bagCase) {
	t.Helper()
	for _, x := range cases {
		if told := bagOf(t, types, batch, x.query); told != x.told {
			t.Errorf("the bag of %s is %q, want %q", x.query, told, x.told)
		}
		c := newCaller(t, "r:"+types)
		c.view(x.query, 0, "")
		c.feed(batch, x.told)
		c.show(0, x.told)
		c.feed(strings.ReplaceAll(batch, "+", "-"), gone(x.told))
		c.show(0, "")
		for _, sign := range []string{"+", "-"} {
			for change := range strings.SplitSeq(batch, ";") {
				if _, e := c.s.Feed(strings.Replace(change, "+", sign, 1)); e != ok {
					t.Errorf("Feed of one change of %q = %d", batch, e)
				}
			}
			c.show(0, map[string]string{"+": x.told}[sign])
		}
	}
}

// gone writes the change that takes all of a bag away.
func gone(bag string) string {
	return strings.ReplaceAll(bag, "*", "*-")
}

func TestBagOfAName(t *testing.T) {
	testBags(t, "it", "+r(2,b);+r(1,a);+r(2,b)", []bagCase{{"r", "(1,a)*1;(2,b)*2"}})
	testBags(t, "it", "", []bagCase{{"r", ""}})
}

func TestBagOfSAndANumber(t *testing.T) {
	testBags(t, "it", "+r(1,a);+r(2,b);+r(10,ab);+r(-1,c);+r(2,ba);+r(2,b);+r(0,z)", []bagCase{
		{"S[0<#2](r)", "(-1,c)*1;(0,z)*1;(1,a)*1"},
		{"S[0=#2](r)", "(2,b)*2;(2,ba)*1"},
		{"S[0!#2](r)", "(-1,c)*1;(0,z)*1;(1,a)*1;(10,ab)*1"},
		{"S[0<#0](r)", "(-1,c)*1"},
		{"S[0=#0](r)", "(0,z)*1"},
		{"S[0!#0](r)", "(-1,c)*1;(1,a)*1;(2,b)*2;(2,ba)*1;(10,ab)*1"},
		{"S[0<#-1](r)", ""},
		{"S[0=#-1](r)", "(-1,c)*1"},
		{"S[0!#-1](r)", "(0,z)*1;(1,a)*1;(2,b)*2;(2,ba)*1;(10,ab)*1"},
		{"S[0<#9](r)", "(-1,c)*1;(0,z)*1;(1,a)*1;(2,b)*2;(2,ba)*1"},
		{"S[0=#3](r)", ""},
		{"S[0<#-9999](r)", ""},
		{"S[0<#9999](r)", "(-1,c)*1;(0,z)*1;(1,a)*1;(2,b)*2;(2,ba)*1;(10,ab)*1"},
	})
	testBags(t, "i", "+r(-9999);+r(9999);+r(-9998);+r(9998)", []bagCase{
		{"S[0=#-9999](r)", "(-9999)*1"},
		{"S[0=#9999](r)", "(9999)*1"},
		{"S[0<#-9998](r)", "(-9999)*1"},
		{"S[0<#9999](r)", "(-9999)*1;(-9998)*1;(9998)*1"},
		{"S[0!#9999](r)", "(-9999)*1;(-9998)*1;(9998)*1"},
	})
}

func TestBagOfSAndAText(t *testing.T) {
	testBags(t, "it", "+r(1,a);+r(2,b);+r(10,ab);+r(-1,c);+r(2,ba);+r(2,b);+r(5,zzzz)", []bagCase{
		{"S[1<$b](r)", "(1,a)*1;(10,ab)*1"},
		{"S[1=$b](r)", "(2,b)*2"},
		{"S[1!$b](r)", "(-1,c)*1;(1,a)*1;(2,ba)*1;(5,zzzz)*1;(10,ab)*1"},
		{"S[1<$a](r)", ""},
		{"S[1<$aa](r)", "(1,a)*1"},
		{"S[1<$ab](r)", "(1,a)*1"},
		{"S[1<$abc](r)", "(1,a)*1;(10,ab)*1"},
		{"S[1<$ba](r)", "(1,a)*1;(2,b)*2;(10,ab)*1"},
		{"S[1=$zzzz](r)", "(5,zzzz)*1"},
		{"S[1<$zzzz](r)", "(-1,c)*1;(1,a)*1;(2,b)*2;(2,ba)*1;(10,ab)*1"},
		{"S[1=$zzz](r)", ""},
	})
}

func TestBagOfSAndAColumn(t *testing.T) {
	testBags(t, "ii", "+r(1,2);+r(2,1);+r(2,2);+r(2,2);+r(-1,-2);+r(-2,-1);+r(9,10)", []bagCase{
		{"S[0<1](r)", "(-2,-1)*1;(1,2)*1;(9,10)*1"},
		{"S[1<0](r)", "(-1,-2)*1;(2,1)*1"},
		{"S[0=1](r)", "(2,2)*2"},
		{"S[1=0](r)", "(2,2)*2"},
		{"S[0!1](r)", "(-2,-1)*1;(-1,-2)*1;(1,2)*1;(2,1)*1;(9,10)*1"},
		{"S[0<0](r)", ""},
		{"S[0=0](r)", "(-2,-1)*1;(-1,-2)*1;(1,2)*1;(2,1)*1;(2,2)*2;(9,10)*1"},
		{"S[1!1](r)", ""},
	})
	testBags(t, "tit", "+r(a,1,ab);+r(ab,2,a);+r(b,3,b);+r(b,3,b);+r(ab,4,b)", []bagCase{
		{"S[0<2](r)", "(a,1,ab)*1;(ab,4,b)*1"},
		{"S[2<0](r)", "(ab,2,a)*1"},
		{"S[0=2](r)", "(b,3,b)*2"},
		{"S[2!0](r)", "(a,1,ab)*1;(ab,2,a)*1;(ab,4,b)*1"},
	})
	// A digit is a column and no number, even where the two would tell one.
	testBags(t, "iii", "+r(1,5,2);+r(5,1,2);+r(2,2,1)", []bagCase{
		{"S[0=2](r)", ""},
		{"S[0=#2](r)", "(2,2,1)*1"},
		{"S[0<1](r)", "(1,5,2)*1"},
		{"S[2<1](r)", "(1,5,2)*1;(2,2,1)*1"},
	})
}

func TestBagOfP(t *testing.T) {
	testBags(t, "itit", "+r(1,a,2,b);+r(1,a,3,c);+r(1,a,3,c);+r(-4,d,5,a)", []bagCase{
		{"P[0](r)", "(-4)*1;(1)*3"},
		{"P[1](r)", "(a)*3;(d)*1"},
		{"P[2](r)", "(2)*1;(3)*2;(5)*1"},
		{"P[3](r)", "(a)*1;(b)*1;(c)*2"},
		{"P[0,0](r)", "(-4,-4)*1;(1,1)*3"},
		{"P[1,0](r)", "(a,1)*3;(d,-4)*1"},
		{"P[0,1](r)", "(-4,d)*1;(1,a)*3"},
		{"P[3,2,1](r)", "(a,5,d)*1;(b,2,a)*1;(c,3,a)*2"},
		{"P[3,2,1,0](r)", "(a,5,d,-4)*1;(b,2,a,1)*1;(c,3,a,1)*2"},
		{"P[0,1,2,3](r)", "(-4,d,5,a)*1;(1,a,2,b)*1;(1,a,3,c)*2"},
		{"P[0,1,0,1,0](r)", "(-4,d,-4,d,-4)*1;(1,a,1,a,1)*3"},
		{"P[3,3,3,3,3,3](r)", "(a,a,a,a,a,a)*1;(b,b,b,b,b,b)*1;(c,c,c,c,c,c)*2"},
		{"P[0,1,2,3,2,1](r)", "(-4,d,5,a,5,d)*1;(1,a,2,b,2,a)*1;(1,a,3,c,3,a)*2"},
	})
}

func TestBagOfU(t *testing.T) {
	testBags(t, "it", "+r(2,b);+r(1,a);+r(2,b)", []bagCase{
		{"U(r,r)", "(1,a)*2;(2,b)*4"},
		{"U(r,U(r,r))", "(1,a)*3;(2,b)*6"},
		{"U(U(r,r),U(r,r))", "(1,a)*4;(2,b)*8"},
		{"U(S[0=#1](r),S[0=#2](r))", "(1,a)*1;(2,b)*2"},
		{"U(S[0=#1](r),r)", "(1,a)*2;(2,b)*2"},
		{"U(r,S[0=#1](r))", "(1,a)*2;(2,b)*2"},
	})
	c := newCaller(t, "r:it", "q:it", "s:ti")
	c.feed("+r(1,a);+q(1,a);+q(1,a);+q(3,c);+s(a,1);+s(z,0)", "")
	c.view("U(r,q)", 0, "(1,a)*3;(3,c)*1")
	c.view("U(q,r)", 1, "(1,a)*3;(3,c)*1")
	c.view("U(P[1,0](q),s)", 2, "(a,1)*3;(c,3)*1;(z,0)*1")
	c.feed("-q(1,a);+r(3,c);-s(z,0)", "(1,a)*-1;(3,c)*1|(1,a)*-1;(3,c)*1|(a,1)*-1;(z,0)*-1")
	c.feed("-q(1,a);+r(1,a)", "|" /* the two together are nothing */ +"|(a,1)*-1")
}

func TestBagOfQueriesWithinOneAnother(t *testing.T) {
	testBags(t, "iti", "+r(1,a,3);+r(2,b,2);+r(3,c,1);+r(2,b,2);+r(-5,ab,10)", []bagCase{
		{"S[0<#3](S[0!#1](r))", "(-5,ab,10)*1;(2,b,2)*2"},
		{"P[0](P[2,1](r))", "(1)*1;(2)*2;(3)*1;(10)*1"},
		{"P[1](P[2,1](r))", "(a)*1;(ab)*1;(b)*2;(c)*1"},
		{"S[0<1](P[0,2](r))", "(-5,10)*1;(1,3)*1"},
		{"S[0=1](P[2,0](r))", "(2,2)*2"},
		{"P[1](S[0<2](r))", "(a)*1;(ab)*1"},
		{"S[0<#2](U(P[0](r),P[2](r)))", "(-5)*1;(1)*2"},
		{"U(P[0](r),P[2](r))", "(-5)*1;(1)*2;(2)*4;(3)*2;(10)*1"},
		{"P[0,0](U(P[0](S[1=$b](r)),P[2](S[1!$b](r))))", "(1,1)*1;(2,2)*2;(3,3)*1;(10,10)*1"},
		{"S[0<#100](S[0!#1](P[0](S[1<$c](P[0,1](U(r,r))))))", "(-5)*2;(2)*4"},
	})
}

// TestBagManyTimes: rows that a query has more than 9 and more than 99 times.
func TestBagManyTimes(t *testing.T) {
	c := newCaller(t, "r:i")
	c.view("r", 0, "")
	c.view("U(r,r)", 1, "")
	c.view("U(U(U(r,r),U(r,r)),U(U(r,r),U(r,r)))", 2, "")
	c.feed(several(9, "+r(1)"), "(1)*9|(1)*18|(1)*72")
	c.feed("+r(1)", "(1)*1|(1)*2|(1)*8")
	c.show(0, "(1)*10")
	c.feed(several(50, "+r(1)"), "(1)*50|(1)*100|(1)*400")
	c.show(0, "(1)*60")
	c.show(1, "(1)*120")
	c.show(2, "(1)*480")
	c.feed(several(50, "-r(1)"), "(1)*-50|(1)*-100|(1)*-400")
	c.feed(several(10, "-r(1)"), "(1)*-10|(1)*-20|(1)*-80")
	c.show(2, "")
}
