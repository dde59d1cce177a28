package ripple_test

import (
	"strings"
	"testing"
)

const deepQuery = "P[0](P[0](P[0](P[0](P[0](P[0](P[0](r)))))))"
const threeJoins = "J[0=0](r,J[0=0](r,J[0=0](r,r)))"

func TestViewErrorsOfCheck(t *testing.T) {
	c := newCaller(t, "r:it")
	for _, q := range []string{"", "R", "r(", "r)", "r ", "rrrrr", "S[0>1](r)", "P[](r)", "U(r)", "U(r,r", "S[0<#-0](r)", "S[0=$abcde](r)", "P[0,1,0,1,0,1,0](r)", "r\x00", "\xff",
		"J[0=0](r)", "J[0<0](r,r)", "J[0=#0](r,r)", "J[](r,r)", "D(r,r)", "D[0](r)", "D()", "G[n](r)", "G[][](r)", "G[][s](r)", "G[0][n1](r)", "G[0,0,0,0,0,0,0][n](r)", "G[][n](r,r)"} {
		c.viewRefused(q, errForm)
	}
	c.viewRefused(strings.Repeat("r", 121), errLong)
	c.viewRefused(strings.Repeat("U(r,", 10_000_000), errLong)
	c.viewRefused(deepQuery, errDeep)
	c.viewRefused(threeJoins, errMany)
	c.showRefused(0)
}

// sixViews has as many views as a session may have.
func sixViews(t *testing.T) caller {
	t.Helper()
	c := newCaller(t, "r:it")
	for n := range 6 {
		c.view("r", n, "")
	}
	return c
}

func TestViewMany(t *testing.T) {
	c := sixViews(t)
	c.viewRefused("r", errMany)
	c.viewRefused("S[0<#1](r)", errMany)
	c.showRefused(6)
	c.feed("+r(1,a)", "(1,a)*1|(1,a)*1|(1,a)*1|(1,a)*1|(1,a)*1|(1,a)*1")
	c.viewRefused("r", errMany)
}

// TestViewWhichErrorIsFirst: each two errors that can apply to one call.
func TestViewWhichErrorIsFirst(t *testing.T) {
	c := sixViews(t)
	c.viewRefused(strings.Repeat("x", 121), errLong) // too many views, ErrTable behind it
	c.viewRefused("r)", errForm)
	c.viewRefused(deepQuery, errDeep)
	c.viewRefused("x", errMany)
	c.viewRefused("P[2](r)", errMany)
	c.viewRefused("U(x,P[2](r))", errMany)
	c.viewRefused(threeJoins, errMany)
	for _, q := range []string{"J[0=0](r,r)", "D(r)", "G[][n](r)", "J[0=0](r,x)", "D(x)", "G[][n](x)", "J[0=1](r,r)", "D(P[2](r))", "G[][s1](r)", "G[9][n](x)", "G[0,0,0,0,0,0][n](r)"} {
		c.viewRefused(q, errMany)
		c.viewRefused(q+")", errForm)
	}

	c = newCaller(t, "r:it")
	c.viewRefused("x)", errForm)
	c.viewRefused("U(x,r", errForm)
	c.viewRefused("P[2](r)(", errForm)
	c.viewRefused(strings.ReplaceAll(deepQuery, "r", "x"), errDeep)
	c.viewRefused(strings.ReplaceAll(deepQuery, "0", "2"), errDeep)
	c.viewRefused(strings.ReplaceAll(threeJoins, "r", "x"), errMany)
	c.viewRefused(strings.ReplaceAll(threeJoins, "0", "9"), errMany)
	c.viewRefused(strings.Repeat("P[2](r)", 18), errLong)
	c.viewRefused("J[9=0](r,x", errForm)
	c.viewRefused("G[9][s1](x)(", errForm)
	c.viewRefused("D(D(D(D(D(D(J[0=1](r,x)))))))", errDeep)
	c.viewRefused("D(J[9=0](r,J[0=0](r,J[0=0](r,x))))", errMany)
	c.viewRefused("D("+strings.Repeat("x", 120), errLong)
}

func TestViewTableThereIsNot(t *testing.T) {
	c := newCaller(t, "r:it", "ab:i")
	for _, q := range []string{
		"x", "a", "abc", "rr", "U(r,x)", "U(x,r)", "U(x,x)", "S[0<#1](x)", "P[0](x)", "U(r,U(r,U(r,x)))", "P[0](S[0<#1](U(x,r)))",
		// not typed either, and that comes behind
		"S[9<#1](x)", "P[9](x)", "U(S[9<#1](r),x)", "U(x,S[9<#1](r))", "U(P[2](r),P[2](x))", "U(U(r,ab),x)", "U(r,U(ab,x))", "P[5](U(r,x))",
		"J[0=0](r,x)", "J[0=0](x,r)", "J[0=0](x,x)", "D(x)", "G[][n](x)", "G[0][s0](x)", "J[0=0](r,J[0=0](r,x))", "J[0=0](J[0=0](x,r),r)", "G[][n](D(J[0=0](r,x)))",
		"J[9=0](r,x)", "J[9=9](x,r)", "J[0=1](J[0=1](r,r),x)", "J[0=0](x,J[0=0](P[0,0,0,0](r),P[0,0,0,0](r)))", "G[9][n](x)", "G[][s9](x)", "G[][s1](U(r,x))", "G[0,0,0,0,0,0][n](x)", "D(U(P[9](r),x))",
	} {
		c.viewRefused(q, errTable)
	}
	c.table("x", "it", ok)
	c.view("U(r,x)", 0, "")
	c.viewRefused("U(S[9<#1](r),x)", errType)
}

func TestViewTypesOfS(t *testing.T) {
	c := newCaller(t, "r:it", "q:itit")
	for _, q := range []string{
		"S[2<#1](r)", "S[9<#1](r)", "S[2=$a](r)", "S[9!$a](r)", // a column that there is not
		"S[0<2](r)", "S[0=9](r)", "S[1!2](r)", "S[2<0](r)", "S[2<2](r)", "S[4=4](q)",
		"S[0=1](r)", "S[1=0](r)", "S[0<1](r)", "S[1!0](r)", "S[0=3](q)", "S[1=2](q)", // columns of two types
		"S[0=$a](r)", "S[0<$a](r)", "S[0!$a](r)", // a number and a text
		"S[1=#1](r)", "S[1<#1](r)", "S[1!#-1](r)", "S[3=#0](q)", "S[2=$i](q)",
	} {
		c.viewRefused(q, errType)
	}
	for n, q := range []string{"S[0<0](r)", "S[1=1](r)", "S[0!2](q)", "S[3<1](q)", "S[2=#1](q)", "S[3!$t](q)"} {
		c.view(q, n, "")
	}
}

func TestViewTypesOfP(t *testing.T) {
	c := newCaller(t, "r:it", "q:itit")
	for _, q := range []string{"P[2](r)", "P[9](r)", "P[0,2](r)", "P[2,0](r)", "P[0,1,0,1,0,2](r)", "P[4](q)", "P[3,4](q)"} {
		c.viewRefused(q, errType)
	}
	for n, q := range []string{"P[0](r)", "P[1](r)", "P[3](q)", "P[0,1,2,3,0,1](q)", "P[5](P[0,1,0,1,0,1](r))", "P[1,1,1,1,1,1](r)"} {
		c.view(q, n, "")
	}
	for _, q := range []string{"S[0<#1](P[1](r))", "S[1<#1](P[0](r))", "P[1](P[0](r))", "P[2](P[0,1](q))", "P[6](P[0,1,0,1,0,1](r))"} {
		c = newCaller(t, "r:it", "q:itit")
		c.viewRefused(q, errType)
	}
}

func TestViewTypesOfU(t *testing.T) {
	c := newCaller(t, "r:it", "s:ti", "q:it", "w:itit")
	for _, q := range []string{
		"U(r,s)", "U(s,r)", "U(r,w)", "U(w,r)", "U(r,P[0](r))", "U(P[0](r),r)", "U(P[0](r),P[1](r))", "U(r,P[0,1,0](r))", "U(r,P[1,0](r))",
		"U(U(r,q),s)", "U(s,U(r,q))", "U(r,U(q,s))", "U(P[2](r),P[2](r))", "U(r,S[0=1](r))", "U(S[0=1](r),r)", "P[2](U(r,q))", "S[0=1](U(r,q))",
	} {
		c.viewRefused(q, errType)
	}
	for n, q := range []string{"U(r,q)", "U(r,r)", "U(r,P[1,0](s))", "U(P[1,0](r),s)", "U(P[0,1,0,1](r),w)", "U(P[0](r),U(P[1](s),P[2](w)))"} {
		c.view(q, n, "")
	}
}

func TestViewTypesOfJ(t *testing.T) {
	tables := []string{"r:it", "s:ti", "w:itit"}
	c := newCaller(t, tables...)
	for _, q := range []string{
		"J[2=0](r,r)", "J[9=0](r,r)", "J[2=1](r,s)", "J[4=0](w,r)", // a column that there is not, on the left
		"J[0=2](r,r)", "J[0=9](r,r)", "J[1=2](r,s)", "J[0=4](r,w)", // on the right
		"J[2=2](r,r)", "J[9=9](r,s)", // on both
		"J[2=0](r,w)", "J[3=1](r,w)", "J[0=2](w,r)", "J[1=3](w,r)", // it would be there on the other side
		"J[0=0](r,s)", "J[1=1](r,s)", "J[0=1](r,r)", "J[1=0](r,r)", "J[3=0](w,r)", "J[2=1](w,r)", "J[0=3](r,w)", // a number and a text
		"J[0=0](P[2](r),r)", "J[0=0](r,P[2](r))", "J[0=0](r,S[0=1](r))", "J[0=0](U(r,s),r)", "J[0=0](r,U(r,s))", "J[0=0](r,J[0=1](r,r))", "J[0=0](J[0=1](r,r),r)",
		"P[4](J[0=0](r,r))", "S[0=1](J[0=0](r,r))", "S[4=#1](J[0=0](r,r))", "S[3=#1](J[0=0](r,r))", "U(r,J[0=0](r,r))", "U(J[0=0](r,r),J[1=0](r,s))", "G[][s3](J[0=0](r,r))",
		"J[0=2](r,J[1=0](r,s))", "J[0=4](r,J[0=0](r,r))", "J[4=0](J[0=0](r,r),r)",
	} {
		c.viewRefused(q, errType)
	}
	for _, q := range []string{
		"J[0=0](r,r)", "J[1=1](r,r)", "J[1=0](r,s)", "J[0=1](r,s)", "J[2=0](w,r)", "J[3=1](w,r)", "J[1=3](r,w)",
		"P[3](J[0=0](r,r))", "S[3=$a](J[0=0](r,r))", "S[2=#1](J[0=0](r,r))", "S[0<2](J[0=0](r,r))", "U(w,J[0=0](r,r))", "U(J[1=0](r,s),J[0=1](r,s))", "G[][s2](J[0=0](r,r))",
		"J[0=3](r,J[1=0](r,s))", "J[3=1](J[0=0](r,r),r)", "J[0=0](P[0](s),P[1](r))",
	} {
		newCaller(t, tables...).view(q, 0, "")
	}
}

func TestViewTypesOfD(t *testing.T) {
	c := newCaller(t, "r:it", "s:ti")
	for _, q := range []string{"D(P[2](r))", "D(S[0=1](r))", "D(U(r,s))", "P[2](D(r))", "S[0=1](D(r))", "S[2=#1](D(r))", "U(D(r),s)", "U(D(r),D(s))", "D(D(P[2](r)))", "J[0=0](D(r),D(s))", "G[][s1](D(r))"} {
		c.viewRefused(q, errType)
	}
	for n, q := range []string{"D(r)", "D(D(s))", "P[1](D(r))", "S[1=$a](D(r))", "U(D(r),D(P[1,0](s)))", "D(P[0,1,0,1,0,1](r))"} {
		c.view(q, n, "")
	}
}

func TestViewTypesOfG(t *testing.T) {
	tables := []string{"r:it", "s:ti"}
	c := newCaller(t, tables...)
	for _, q := range []string{
		"G[2][n](r)", "G[9][n](r)", "G[0,2][n](r)", "G[2,0][n](r)", "G[0,1,0,1,2][n](r)", "G[2][s0](r)", // a key that there is not
		"G[][s2](r)", "G[][s9](r)", "G[0][s2](r)", "G[0,1][s2](r)", // no such column to sum up
		"G[][s1](r)", "G[0][s1](r)", "G[1][s1](r)", "G[1,1][s1](r)", "G[][s0](s)", // a sum of texts
		"G[][n](P[2](r))", "G[][n](S[0=1](r))", "G[][n](U(r,s))",
		"P[1](G[][n](r))", "P[2](G[0][n](r))", "S[1=$a](G[0][n](r))", "S[0=1](G[1][n](r))", "S[2=#1](G[1][n](r))", "U(r,G[0][n](r))", "U(G[0][n](r),G[1][n](r))", "U(G[][n](r),G[0][n](r))",
		"G[2][n](G[0][n](r))", "G[1][n](G[][n](r))", "G[][s0](G[1][n](r))", "G[][s2](G[0][n](r))", "J[0=0](G[1][n](r),r)", "J[1=0](G[1][n](r),s)",
	} {
		c.viewRefused(q, errType)
	}
	for _, q := range []string{
		"G[][n](r)", "G[0][n](r)", "G[1][n](r)", "G[1,1][n](r)", "G[][s0](r)", "G[1][s0](r)", "G[0][s0](r)", "G[][s1](s)", "G[0,1,0][s1](s)",
		"P[0](G[][n](r))", "S[1=#1](G[1][n](r))", "S[0=1](G[0][n](r))", "U(s,G[1][s0](r))", "U(G[1][n](r),G[1][s0](r))", "U(G[][n](r),G[][s1](s))",
		"G[1][n](G[0][n](r))", "G[][s1](G[1][n](r))", "G[0][s0](G[][n](r))", "J[1=0](G[1][n](r),r)", "J[0=0](G[1][s0](r),s)",
	} {
		newCaller(t, tables...).view(q, 0, "")
	}
}

// TestViewColumns: no query in it has more than six, whatever is around it.
func TestViewColumns(t *testing.T) {
	tables := []string{"r:it", "w:iiii"}
	c := newCaller(t, tables...)
	for _, wide := range []string{
		"J[0=0](w,P[0,0,0](r))", "J[0=0](P[0,0,0](r),w)", "J[0=0](w,w)", "J[0=0](P[0](r),P[0,0,0,0,0,0](r))", "J[0=0](P[0,0,0,0,0,0](r),P[0](r))", "J[0=0](P[0,0,0,0,0,0](r),P[0,0,0,0,0,0](r))",
		"J[0=0](r,J[0=0](r,P[0,0,0](r)))", "J[0=0](J[0=0](r,P[0,0,0](r)),r)", "J[0=0](J[0=0](P[0,0,0](r),r),r)", "J[0=0](r,J[0=0](w,r))", "J[0=0](P[0](r),J[0=0](w,r))",
		"G[0,1,0,1,0,1][n](r)", "G[0,0,0,0,0,0][s0](r)", "G[0,1,2,3,0,1][s3](w)", "J[0=0](G[0,0,0][n](r),P[0,0,0](r))", "J[0=0](P[0,0,0](r),G[0,0,0][n](r))",
	} {
		for _, around := range []string{"Q", "P[0](Q)", "S[0=#1](Q)", "D(Q)", "G[][n](Q)", "G[0][s0](Q)", "U(Q,Q)", "U(P[0](Q),P[0](r))", "U(P[0](r),P[0](Q))", "P[0](D(S[0=0](Q)))"} {
			q := strings.ReplaceAll(around, "Q", wide)
			if strings.Count(q, "J") <= 2 && len(q) <= 120 {
				c.viewRefused(q, errType)
			}
		}
	}
	c.viewRefused("J[0=0](P[0](J[0=0](w,w)),r)", errType)
	c.viewRefused("J[0=0](r,P[0](J[0=0](w,w)))", errType)
	for _, q := range []string{
		"J[0=0](r,w)", "J[0=0](w,r)", "J[0=0](r,J[0=0](r,r))", "J[0=0](J[0=0](r,r),r)", "J[0=0](P[0](r),P[0,0,0,0,0](r))", "J[0=0](P[0,0,0](r),P[0,0,0](r))",
		"G[0,1,0,1,0][n](r)", "G[0,0,0,0,0][s0](r)", "G[3,2,1,0,3][s3](w)", "J[0=0](G[0,0][n](r),G[0,0][n](r))", "J[0=0](P[0](r),G[0,0,0,0][n](r))",
		"G[5,4,3,2,1][s4](P[0,1,0,1,0,1](r))", "P[5](J[0=0](r,w))", "S[5=#1](J[0=0](r,w))", "D(J[0=0](r,w))", "G[5][s5](J[0=0](r,w))",
		"J[0=0](P[0](J[0=0](r,w)),P[0,0,0,0,0](r))",
	} {
		newCaller(t, tables...).view(q, 0, "")
	}
}

func TestViewNumbers(t *testing.T) {
	c := newCaller(t, "r:it")
	refused := func() {
		c.viewRefused("", errForm)
		c.viewRefused(strings.Repeat("r", 121), errLong)
		c.viewRefused(deepQuery, errDeep)
		c.viewRefused(threeJoins, errMany)
		c.viewRefused("x", errTable)
		c.viewRefused("P[2](r)", errType)
		c.viewRefused("J[0=1](r,r)", errType)
		c.viewRefused("G[][s1](r)", errType)
		c.viewRefused("D(U(r,G[0][n](r)))", errType)
	}
	for n, q := range []string{"r", "P[0](r)", "J[0=0](P[0](r),r)", "D(r)", "G[1][s0](r)", "r"} {
		refused()
		c.view(q, n, "")
	}
	c.feed("+r(1,a)", "(1,a)*1|(1)*1|(1,1,a)*1|(1,a)*1|(a,1)*1|(1,a)*1")
}

func TestViewRefusedIsNoView(t *testing.T) {
	c := newCaller(t, "r:it")
	c.feed("+r(1,a)", "")
	c.viewRefused("U(r,P[1,0](r))", errType)
	c.viewRefused("U(r,x)", errTable)
	c.showRefused(0)
	c.feed("+r(2,b)", "")
	c.view("r", 0, "(1,a)*1;(2,b)*1")
	c.viewRefused("U(r,P[1,0](r))", errType)
	c.viewRefused("U(r,x)", errTable)
	c.showRefused(1)
	c.feed("-r(1,a)", "(1,a)*-1")
	c.show(0, "(2,b)*1")
}

// TestViewOfTablesWithRows: what View tells is the bag as it is now.
func TestViewOfTablesWithRows(t *testing.T) {
	c := newCaller(t, "r:it", "s:ti", "q:it")
	c.feed("+r(5,x);+r(5,x);+s(b,2);+r(-1,c);+q(5,x)", "")
	c.view("r", 0, "(-1,c)*1;(5,x)*2")
	c.view("S[0<#5](r)", 1, "(-1,c)*1")
	c.view("U(P[1,0](r),s)", 2, "(b,2)*1;(c,-1)*1;(x,5)*2")
	c.feed("-r(5,x);+s(b,2)", "(5,x)*-1||(b,2)*1;(x,5)*-1")
	c.view("U(r,q)", 3, "(-1,c)*1;(5,x)*2")
	c.view("U(r,r)", 4, "(-1,c)*2;(5,x)*2")
	c.view("P[1](s)", 5, "(2)*2")
	c.show(0, "(-1,c)*1;(5,x)*1")
	c.show(2, "(b,2)*2;(c,-1)*1;(x,5)*1")
	c.feed("-r(-1,c)", "(-1,c)*-1|(-1,c)*-1|(c,-1)*-1|(-1,c)*-1|(-1,c)*-2|")
}

// TestViewOfJDAndGOverTablesWithRows: what has come ahead of the view is known
// to all parts of its query when the next batch comes.
func TestViewOfJDAndGOverTablesWithRows(t *testing.T) {
	c := newCaller(t, "r:it", "s:ti")
	c.feed("+r(1,a);+r(1,a);+r(2,b);+s(a,5);+s(b,7);+s(b,7)", "")
	c.view("J[1=0](r,s)", 0, "(1,a,a,5)*2;(2,b,b,7)*2")
	c.view("D(U(P[1,0](r),s))", 1, "(a,1)*1;(a,5)*1;(b,2)*1;(b,7)*1")
	c.view("G[1][s3](J[1=0](r,s))", 2, "(a,10)*1;(b,14)*1")
	c.view("J[0=0](r,r)", 3, "(1,a,1,a)*4;(2,b,2,b)*1")
	c.view("G[][n](D(r))", 4, "(2)*1")
	c.feed("-r(1,a);+s(a,5);-s(b,7)", "(2,b,b,7)*-1||(b,7)*1;(b,14)*-1|(1,a,1,a)*-3|")
	c.view("J[0=0](P[1](r),P[0](s))", 5, "(a,a)*2;(b,b)*1")
	c.feed("-r(1,a);+r(1,b)", "(1,a,a,5)*-2;(1,b,b,7)*1|(a,1)*-1;(b,1)*1|(a,10)*-1;(b,7)*-1;(b,14)*1|(1,a,1,a)*-1;(1,b,1,b)*1||(a,a)*-2;(b,b)*1")
	c.feed("-s(a,5);-s(a,5);-s(b,7)", "(1,b,b,7)*-1;(2,b,b,7)*-1|(a,5)*-1;(b,7)*-1|(b,14)*-1|||(b,b)*-2")
}

// TestViewTellsNothingOfOtherViews: a new view neither tells again nor takes
// away what others have to tell.
func TestViewTellsNothingOfOtherViews(t *testing.T) {
	c := newCaller(t, "r:it")
	c.view("r", 0, "")
	c.feed("+r(1,a)", "(1,a)*1")
	c.view("r", 1, "(1,a)*1")
	c.view("P[0](r)", 2, "(1)*1")
	c.feed("", "||")
	c.show(0, "(1,a)*1")
	c.show(1, "(1,a)*1")
	c.feed("+r(1,a)", "(1,a)*1|(1,a)*1|(1)*1")
}

func TestViewAtTheLimitsOfItsText(t *testing.T) {
	deepest := "P[0](S[0<#9](P[0](S[0!#-9](U(P[0](r),P[0](r))))))"
	c := newCaller(t, "r:it")
	c.viewRefused(strings.Replace(deepest, "r", "S[0=0](r)", 1), errDeep)
	c.feed("+r(8,a);+r(-9,b);+r(9,c)", "")
	c.view(deepest, 0, "(8)*2")

	longest := "U(S[0=#-9999](S[0=#-9999](S[0=#-9999](S[0=#-9999](abcd)))),S[0!#-9998](S[0!#-9997](S[0!#-9996](S[0!#-999](U(abcd,a))))))"
	if len(longest) != 120 {
		t.Fatalf("longest has %d bytes", len(longest))
	}
	c = newCaller(t, "abcd:i", "a:i")
	c.viewRefused(strings.Replace(longest, ",a)", ",aa)", 1), errLong)
	c.feed("+abcd(-9999);+a(-9999);+abcd(-9998);+a(1)", "")
	c.view(longest, 0, "(-9999)*3;(1)*1")
}
