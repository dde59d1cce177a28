package ripple_test

import (
	"strings"
	"testing"
)

const deepQuery = "P[0](P[0](P[0](P[0](P[0](P[0](P[0](r)))))))"
const threeJoins = "J[0=0](r,J[0=0](r,J[0=0](r,r)))"

func TestViewErrorsOfCheck(t *testing.T) {
	c := newCaller(t, "r:it")
	for _, q := range []string{"", "R", "r(", "r)", "r ", "rrrrr", "S[0>1](r)", "P[](r)", "U(r)", "U(r,r", "S[0<#-0](r)", "S[0=$abcde](r)", "P[0,1,0,1,0,1,0](r)", "r\x00", "\xff"} {
		c.viewRefused(q, errForm)
	}
	c.viewRefused(strings.Repeat("r", 121), errLong)
	c.viewRefused(strings.Repeat("U(r,", 10_000_000), errLong)
	c.viewRefused(deepQuery, errDeep)
	c.viewRefused(threeJoins, errMany)
	c.showRefused(0)
}

// sixViews has as many views as a session may have.
func sixViews(t *testing.T) caller {
	t.Helper()
	c := newCaller(t, "r:it")
	for n := range 6 {
		c.view("r", n, "")
	}
	return c
}

func TestViewMany(t *testing.T) {
	c := sixViews(t)
	c.viewRefused("r", errMany)
	c.viewRefused("S[0<#1](r)", errMany)
	c.showRefused(6)
	c.feed("+r(1,a)", "(1,a)*1|(1,a)*1|(1,a)*1|(1,a)*1|(1,a)*1|(1,a)*1")
	c.viewRefused("r", errMany)
}

// TestViewWhichErrorIsFirst: each two errors that can apply to one call.
func TestViewWhichErrorIsFirst(t *testing.T) {
	c := sixViews(t)
	c.viewRefused(strings.Repeat("x", 121), errLong) // too many views, ErrTable behind it
	c.viewRefused("r)", errForm)
	c.viewRefused(deepQuery, errDeep)
	c.viewRefused("x", errMany)
	c.viewRefused("P[2](r)", errMany)
	c.viewRefused("U(x,P[2](r))", errMany)
	c.viewRefused(threeJoins, errMany)

	c = newCaller(t, "r:it")
	c.viewRefused("x)", errForm)
	c.viewRefused("U(x,r", errForm)
	c.viewRefused("P[2](r)(", errForm)
	c.viewRefused(strings.ReplaceAll(deepQuery, "r", "x"), errDeep)
	c.viewRefused(strings.ReplaceAll(deepQuery, "0", "2"), errDeep)
	c.viewRefused(strings.ReplaceAll(threeJoins, "r", "x"), errMany)
	c.viewRefused(strings.ReplaceAll(threeJoins, "0", "9"), errMany)
	c.viewRefused(strings.Repeat("P[2](r)", 18), errLong)
}

func TestViewTableThereIsNot(t *testing.T) {
	c := newCaller(t, "r:it", "ab:i")
	for _, q := range []string{
		"x", "a", "abc", "rr", "U(r,x)", "U(x,r)", "U(x,x)", "S[0<#1](x)", "P[0](x)", "U(r,U(r,U(r,x)))", "P[0](S[0<#1](U(x,r)))",
		// not typed either, and that comes behind
		"S[9<#1](x)", "P[9](x)", "U(S[9<#1](r),x)", "U(x,S[9<#1](r))", "U(P[2](r),P[2](x))", "U(U(r,ab),x)", "U(r,U(ab,x))", "P[5](U(r,x))",
	} {
		c.viewRefused(q, errTable)
	}
	c.table("x", "it", ok)
	c.view("U(r,x)", 0, "")
	c.viewRefused("U(S[9<#1](r),x)", errType)
}

func TestViewTypesOfS(t *testing.T) {
	c := newCaller(t, "r:it", "q:itit")
	for _, q := range []string{
		"S[2<#1](r)", "S[9<#1](r)", "S[2=$a](r)", "S[9!$a](r)", // a column that there is not
		"S[0<2](r)", "S[0=9](r)", "S[1!2](r)", "S[2<0](r)", "S[2<2](r)", "S[4=4](q)",
		"S[0=1](r)", "S[1=0](r)", "S[0<1](r)", "S[1!0](r)", "S[0=3](q)", "S[1=2](q)", // columns of two types
		"S[0=$a](r)", "S[0<$a](r)", "S[0!$a](r)", // a number and a text
		"S[1=#1](r)", "S[1<#1](r)", "S[1!#-1](r)", "S[3=#0](q)", "S[2=$i](q)",
	} {
		c.viewRefused(q, errType)
	}
	for n, q := range []string{"S[0<0](r)", "S[1=1](r)", "S[0!2](q)", "S[3<1](q)", "S[2=#1](q)", "S[3!$t](q)"} {
		c.view(q, n, "")
	}
}

func TestViewTypesOfP(t *testing.T) {
	c := newCaller(t, "r:it", "q:itit")
	for _, q := range []string{"P[2](r)", "P[9](r)", "P[0,2](r)", "P[2,0](r)", "P[0,1,0,1,0,2](r)", "P[4](q)", "P[3,4](q)"} {
		c.viewRefused(q, errType)
	}
	for n, q := range []string{"P[0](r)", "P[1](r)", "P[3](q)", "P[0,1,2,3,0,1](q)", "P[5](P[0,1,0,1,0,1](r))", "P[1,1,1,1,1,1](r)"} {
		c.view(q, n, "")
	}
	for _, q := range []string{"S[0<#1](P[1](r))", "S[1<#1](P[0](r))", "P[1](P[0](r))", "P[2](P[0,1](q))", "P[6](P[0,1,0,1,0,1](r))"} {
		c = newCaller(t, "r:it", "q:itit")
		c.viewRefused(q, errType)
	}
}

func TestViewTypesOfU(t *testing.T) {
	c := newCaller(t, "r:it", "s:ti", "q:it", "w:itit")
	for _, q := range []string{
		"U(r,s)", "U(s,r)", "U(r,w)", "U(w,r)", "U(r,P[0](r))", "U(P[0](r),r)", "U(P[0](r),P[1](r))", "U(r,P[0,1,0](r))", "U(r,P[1,0](r))",
		"U(U(r,q),s)", "U(s,U(r,q))", "U(r,U(q,s))", "U(P[2](r),P[2](r))", "U(r,S[0=1](r))", "U(S[0=1](r),r)", "P[2](U(r,q))", "S[0=1](U(r,q))",
	} {
		c.viewRefused(q, errType)
	}
	for n, q := range []string{"U(r,q)", "U(r,r)", "U(r,P[1,0](s))", "U(P[1,0](r),s)", "U(P[0,1,0,1](r),w)", "U(P[0](r),U(P[1](s),P[2](w)))"} {
		c.view(q, n, "")
	}
}

func TestViewNumbers(t *testing.T) {
	c := newCaller(t, "r:it")
	refused := func() {
		c.viewRefused("", errForm)
		c.viewRefused(strings.Repeat("r", 121), errLong)
		c.viewRefused(deepQuery, errDeep)
		c.viewRefused(threeJoins, errMany)
		c.viewRefused("x", errTable)
		c.viewRefused("P[2](r)", errType)
	}
	for n := range 6 {
		refused()
		c.view([]string{"r", "P[0](r)"}[n%2], n, "")
	}
	c.feed("+r(1,a)", "(1,a)*1|(1)*1|(1,a)*1|(1)*1|(1,a)*1|(1)*1")
}

func TestViewRefusedIsNoView(t *testing.T) {
	c := newCaller(t, "r:it")
	c.feed("+r(1,a)", "")
	c.viewRefused("U(r,P[1,0](r))", errType)
	c.viewRefused("U(r,x)", errTable)
	c.showRefused(0)
	c.feed("+r(2,b)", "")
	c.view("r", 0, "(1,a)*1;(2,b)*1")
	c.viewRefused("U(r,P[1,0](r))", errType)
	c.viewRefused("U(r,x)", errTable)
	c.showRefused(1)
	c.feed("-r(1,a)", "(1,a)*-1")
	c.show(0, "(2,b)*1")
}

// TestViewOfTablesWithRows: what View tells is the bag as it is now.
func TestViewOfTablesWithRows(t *testing.T) {
	c := newCaller(t, "r:it", "s:ti", "q:it")
	c.feed("+r(5,x);+r(5,x);+s(b,2);+r(-1,c);+q(5,x)", "")
	c.view("r", 0, "(-1,c)*1;(5,x)*2")
	c.view("S[0<#5](r)", 1, "(-1,c)*1")
	c.view("U(P[1,0](r),s)", 2, "(b,2)*1;(c,-1)*1;(x,5)*2")
	c.feed("-r(5,x);+s(b,2)", "(5,x)*-1||(b,2)*1;(x,5)*-1")
	c.view("U(r,q)", 3, "(-1,c)*1;(5,x)*2")
	c.view("U(r,r)", 4, "(-1,c)*2;(5,x)*2")
	c.view("P[1](s)", 5, "(2)*2")
	c.show(0, "(-1,c)*1;(5,x)*1")
	c.show(2, "(b,2)*2;(c,-1)*1;(x,5)*1")
	c.feed("-r(-1,c)", "(-1,c)*-1|(-1,c)*-1|(c,-1)*-1|(-1,c)*-1|(-1,c)*-2|")
}

// TestViewTellsNothingOfOtherViews: a new view neither tells again nor takes
// away what others have to tell.
func TestViewTellsNothingOfOtherViews(t *testing.T) {
	c := newCaller(t, "r:it")
	c.view("r", 0, "")
	c.feed("+r(1,a)", "(1,a)*1")
	c.view("r", 1, "(1,a)*1")
	c.view("P[0](r)", 2, "(1)*1")
	c.feed("", "||")
	c.show(0, "(1,a)*1")
	c.show(1, "(1,a)*1")
	c.feed("+r(1,a)", "(1,a)*1|(1,a)*1|(1)*1")
}

func TestViewAtTheLimitsOfItsText(t *testing.T) {
	deepest := "P[0](S[0<#9](P[0](S[0!#-9](U(P[0](r),P[0](r))))))"
	c := newCaller(t, "r:it")
	c.viewRefused(strings.Replace(deepest, "r", "S[0=0](r)", 1), errDeep)
	c.feed("+r(8,a);+r(-9,b);+r(9,c)", "")
	c.view(deepest, 0, "(8)*2")

	longest := "U(S[0=#-9999](S[0=#-9999](S[0=#-9999](S[0=#-9999](abcd)))),S[0!#-9998](S[0!#-9997](S[0!#-9996](S[0!#-999](U(abcd,a))))))"
	if len(longest) != 120 {
		t.Fatalf("longest has %d bytes", len(longest))
	}
	c = newCaller(t, "abcd:i", "a:i")
	c.viewRefused(strings.Replace(longest, ",a)", ",aa)", 1), errLong)
	c.feed("+abcd(-9999);+a(-9999);+abcd(-9998);+a(1)", "")
	c.view(longest, 0, "(-9999)*3;(1)*1")
}
