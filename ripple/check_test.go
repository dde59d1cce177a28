package ripple_test

import (
	"strings"
	"testing"

	"ripple/ripple"
)

type checkCase struct {
	query string
	e     ripple.Errno
	place int
}

func testCheck(t *testing.T, cases []checkCase) {
	t.Helper()
	for _, c := range cases {
		if e, place := ripple.Check(c.query); e != c.e || place != c.place {
			t.Errorf("Check(%.130q) = %d, %d, want %d, %d", c.query, e, place, c.e, c.place)
		}
	}
}

func testQueries(t *testing.T, queries []string) {
	t.Helper()
	for _, q := range queries {
		testCheck(t, []checkCase{{q, ok, 0}})
	}
}

func TestCheckExamples(t *testing.T) {
	testCheck(t, []checkCase{
		{"S[0<#5](r)", ok, 0},
		{"S[0<5](r)", ok, 0},
		{"S[0>1](r)", errForm, 3},
		{"P[](r)", errForm, 2},
		{"G[][n](r)", ok, 0},
		{"U(r)", errForm, 3},
		{"abcde", errForm, 4},
		{"S[0=#-0](r)", errForm, 6},
		{"D(D(D(D(D(D(D(r)))))))", errDeep, 13},
		{"J[0=0](r,J[0=0](r,J[0=0](r,r)))", errMany, 0},
	})
}

// queriesOfEachForm are queries: each form, with each choice that it leaves.
var queriesOfEachForm = []string{
	"a", "z", "ab", "abc", "abcd", "zzzz", "s", "n",
	"S[0<0](r)", "S[9=9](r)", "S[0!1](r)", "S[1<2](abcd)",
	"S[0<#0](r)", "S[0=#9](r)", "S[0!#10](r)", "S[0<#999](r)", "S[0<#1000](r)", "S[0<#9999](r)",
	"S[0<#-1](r)", "S[0=#-10](r)", "S[0!#-999](r)", "S[0<#-9999](r)",
	"S[0<$a](r)", "S[0=$ab](r)", "S[0!$abc](r)", "S[0<$zzzz](r)",
	"P[0](r)", "P[9](r)", "P[0,0](r)", "P[5,4,3](r)", "P[0,1,2,3](r)", "P[0,1,2,3,4](r)", "P[9,8,7,6,5,4](r)",
	"J[0=0](r,s)", "J[9=9](abcd,abcd)", "J[3=1](r,r)",
	"U(r,s)", "U(abcd,zzzz)",
	"D(r)", "D(abcd)",
	"G[][n](r)", "G[0][n](r)", "G[0,1,2,3,4,5][n](r)",
	"G[][s0](r)", "G[9][s9](r)", "G[0,1,2,3,4,5][s6](r)",
}

func TestCheckEachForm(t *testing.T) {
	testQueries(t, queriesOfEachForm)
}

// frames are the forms with places left for queries.
var frames = []string{
	"S[0<1](Q)", "S[0=#-12](Q)", "S[0!$ab](Q)",
	"P[0,1](Q)",
	"J[0=1](Q,r)", "J[0=1](r,Q)", "J[0=1](Q,Q)",
	"U(Q,r)", "U(r,Q)", "U(Q,Q)",
	"D(Q)",
	"G[][n](Q)", "G[0,1][s2](Q)",
}

func TestCheckEachFormInEachOther(t *testing.T) {
	for _, frame := range frames {
		for _, q := range queriesOfEachForm {
			whole := strings.ReplaceAll(frame, "Q", q)
			if strings.Count(whole, "J") > 2 {
				testCheck(t, []checkCase{{whole, errMany, 0}})
				continue
			}
			testQueries(t, []string{whole})
		}
	}
}

func TestCheckNested(t *testing.T) {
	testQueries(t, []string{
		"D(D(D(D(D(D(r))))))",
		"U(D(D(D(D(D(r))))),D(D(D(D(D(r))))))",
		"U(U(U(U(U(U(a,b),c),d),e),f),g)",
		"U(a,U(b,U(c,U(d,U(e,U(f,g))))))",
		"U(U(U(a,b),U(c,d)),U(U(e,f),U(g,h)))",
		"G[0][n](U(P[1](r),P[0](s)))",
		"G[][n](J[1=0](r,s))",
		"S[0<1](P[0,1](J[0=1](U(D(r),G[0][s1](s)),s)))",
		"J[0=1](S[0<#5](r),J[1=0](D(P[0,1](s)),G[0][n](t)))",
	})
}

// query120 has just as many bytes as a query may have.
const query120 = "U(S[0=#-9999](S[0=#-9999](S[0=#-9999](S[0=#-9999](abcd))))," +
	"G[0,1,2,3,4][n](S[0=#-9999](S[0=#-9999](S[0=#-9999](abcd)))))"

func TestCheckLong(t *testing.T) {
	if len(query120) != 120 {
		t.Fatalf("query120 has %d bytes", len(query120))
	}
	testCheck(t, []checkCase{
		{query120, ok, 0},
		{query120 + ")", errLong, 0},
		{query120[:119], errForm, 119},
		{strings.Replace(query120, "4][n](", "45][n](", 1), errLong, 0},
		{strings.Replace(query120, "U(", "D(U(", 1) + ")", errLong, 0},
		{strings.Repeat("a", 120), errForm, 4},
		{strings.Repeat("a", 121), errLong, 0},
		{strings.Repeat("(", 120), errForm, 0},
		{strings.Repeat("(", 121), errLong, 0},
		{strings.Repeat("D(", 60), errDeep, 13},
		{strings.Repeat("D(", 60) + "r", errLong, 0},
		{strings.Repeat("\x00", 120), errForm, 0},
		{strings.Repeat("\x00", 121), errLong, 0},
		{strings.Repeat("\u00e9", 60), errForm, 0},
		{strings.Repeat("\u00e9", 61), errLong, 0}, // 61 letters, but 122 bytes
		{strings.Repeat("D(", 20_000_000), errLong, 0},
	})
}

// TestCheckTellsALongTextByItsLength: were there any work that grows with the
// text, this many calls would not end before go test gives up.
func TestCheckTellsALongTextByItsLength(t *testing.T) {
	long := strings.Repeat("U(r,", 10_000_000)
	for range 500_000 {
		if e, place := ripple.Check(long); e != errLong || place != 0 {
			t.Fatalf("Check of a long text = %d, %d, want %d, 0", e, place, errLong)
		}
	}
}

func TestCheckFormOfTables(t *testing.T) {
	testCheck(t, []checkCase{
		{"", errForm, 0},
		{" ", errForm, 0},
		{"r ", errForm, 1},
		{" r", errForm, 0},
		{"R", errForm, 0},
		{"rR", errForm, 1},
		{"1", errForm, 0},
		{"r1", errForm, 1},
		{"#1", errForm, 0},
		{"$a", errForm, 0},
		{"-", errForm, 0},
		{"(r)", errForm, 0},
		{"r(", errForm, 1},
		{"r)", errForm, 1},
		{"r,r", errForm, 1},
		{"ab_d", errForm, 2},
		{"abcde", errForm, 4},
		{"abcdE", errForm, 4},
		{"`", errForm, 0}, // the byte ahead of a
		{"{", errForm, 0}, // the byte behind z
		{"D(abcde)", errForm, 6},
		{"U(r,abcde)", errForm, 8},
		{"U(abcde,r)", errForm, 6},
	})
}

func TestCheckFormOfS(t *testing.T) {
	testCheck(t, []checkCase{
		{"s[0<1](r)", errForm, 1},
		{"S(r)", errForm, 1},
		{"S[](r)", errForm, 2},
		{"S[a<1](r)", errForm, 2},
		{"S[#1<1](r)", errForm, 2},
		{"S[-1<1](r)", errForm, 2},
		{"S[/<1](r)", errForm, 2}, // the byte ahead of 0
		{"S[:<1](r)", errForm, 2}, // the byte behind 9
		{"S[00<1](r)", errForm, 3},
		{"S[0](r)", errForm, 3},
		{"S[0,1](r)", errForm, 3},
		{"S[0>1](r)", errForm, 3},
		{"S[0<=1](r)", errForm, 4},
		{"S[0!=1](r)", errForm, 4},
		{"S[0==1](r)", errForm, 4},
		{"S[0<](r)", errForm, 4},
		{"S[0<a](r)", errForm, 4},
		{"S[0<-1](r)", errForm, 4},
		{"S[0<12](r)", errForm, 5},
		{"S[0<1,2](r)", errForm, 5},
		{"S[0<1)(r)", errForm, 5},
		{"S[0<1]r", errForm, 6},
		{"S[0<1][0<1](r)", errForm, 6},
		{"S[0<1]()", errForm, 7},
		{"S[0<1]((r))", errForm, 7},
		{"S[0<1](r]", errForm, 8},
		{"S[0<1](r,s)", errForm, 8},
		{"S[0<1](r))", errForm, 9},
	})
}

func TestCheckFormOfNumbers(t *testing.T) {
	testCheck(t, []checkCase{
		{"S[0<#](r)", errForm, 5},
		{"S[0<#a](r)", errForm, 5},
		{"S[0<##1](r)", errForm, 5},
		{"S[0<#$a](r)", errForm, 5},
		{"S[0<#+1](r)", errForm, 5},
		{"S[0<# 1](r)", errForm, 5},
		{"S[0<#-](r)", errForm, 6},
		{"S[0<#--1](r)", errForm, 6},
		{"S[0<#-0](r)", errForm, 6},
		{"S[0<#-01](r)", errForm, 6},
		{"S[0<#-a](r)", errForm, 6},
		{"S[0<#00](r)", errForm, 6},
		{"S[0<#01](r)", errForm, 6},
		{"S[0<#0-](r)", errForm, 6},
		{"S[0<#1-](r)", errForm, 6},
		{"S[0<#1.5](r)", errForm, 6},
		{"S[0<#1a](r)", errForm, 6},
		{"S[0<#10000](r)", errForm, 9},
		{"S[0<#99999](r)", errForm, 9},
		{"S[0<#-10000](r)", errForm, 10},
		{"S[0<#9999-](r)", errForm, 9},
	})
}

func TestCheckFormOfTexts(t *testing.T) {
	testCheck(t, []checkCase{
		{"S[0=$](r)", errForm, 5},
		{"S[0=$1](r)", errForm, 5},
		{"S[0=$A](r)", errForm, 5},
		{"S[0=$$a](r)", errForm, 5},
		{"S[0=$#1](r)", errForm, 5},
		{"S[0=$a1](r)", errForm, 6},
		{"S[0=$aA](r)", errForm, 6},
		{"S[0=$abcde](r)", errForm, 9},
		{"S[0=$abcd$](r)", errForm, 9},
	})
}

func TestCheckFormOfP(t *testing.T) {
	testCheck(t, []checkCase{
		{"P(r)", errForm, 1},
		{"P[](r)", errForm, 2},
		{"P[a](r)", errForm, 2},
		{"P[,0](r)", errForm, 2},
		{"P[-1](r)", errForm, 2},
		{"P[01](r)", errForm, 3},
		{"P[0;1](r)", errForm, 3},
		{"P[0 ,1](r)", errForm, 3},
		{"P[0,](r)", errForm, 4},
		{"P[0,,1](r)", errForm, 4},
		{"P[0,a](r)", errForm, 4},
		{"P[0,1,2,3,4,5,](r)", errForm, 13},
		{"P[0,1,2,3,4,5,6](r)", errForm, 13},
		{"P[0,1,2,3,4,56](r)", errForm, 13},
		{"P[0]r", errForm, 4},
		{"P[0][1](r)", errForm, 4},
		{"P[0]()", errForm, 5},
		{"P[0](r,s)", errForm, 6},
	})
}

func TestCheckFormOfJ(t *testing.T) {
	testCheck(t, []checkCase{
		{"J(r,s)", errForm, 1},
		{"J[](r,s)", errForm, 2},
		{"J[=0](r,s)", errForm, 2},
		{"J[a=0](r,s)", errForm, 2},
		{"J[0](r,s)", errForm, 3},
		{"J[0<1](r,s)", errForm, 3},
		{"J[0!1](r,s)", errForm, 3},
		{"J[0,1](r,s)", errForm, 3},
		{"J[00=1](r,s)", errForm, 3},
		{"J[0=](r,s)", errForm, 4},
		{"J[0=#1](r,s)", errForm, 4},
		{"J[0=$a](r,s)", errForm, 4},
		{"J[0=12](r,s)", errForm, 5},
		{"J[0=1,1=2](r,s)", errForm, 5},
		{"J[0=1]r", errForm, 6},
		{"J[0=1]()", errForm, 7},
		{"J[0=1](,s)", errForm, 7},
		{"J[0=1](r)", errForm, 8},
		{"J[0=1](r;s)", errForm, 8},
		{"J[0=1](r,)", errForm, 9},
		{"J[0=1](r,s,t)", errForm, 10},
		{"J[0=1](r,s))", errForm, 11},
	})
}

func TestCheckFormOfUAndD(t *testing.T) {
	testCheck(t, []checkCase{
		{"Ur", errForm, 1},
		{"U[](r,s)", errForm, 1},
		{"U[0](r,s)", errForm, 1},
		{"U()", errForm, 2},
		{"U(,r)", errForm, 2},
		{"U(r)", errForm, 3},
		{"U(r s)", errForm, 3},
		{"U(r,)", errForm, 4},
		{"U(r,s,t)", errForm, 5},
		{"U(r,s))", errForm, 6},
		{"Dr", errForm, 1},
		{"D[](r)", errForm, 1},
		{"D[0](r)", errForm, 1},
		{"D()", errForm, 2},
		{"D((r))", errForm, 2},
		{"D(r,s)", errForm, 3},
		{"D(U(r,s),t)", errForm, 8},
		{"U(D(r,s),t)", errForm, 5},
	})
}

func TestCheckFormOfG(t *testing.T) {
	testCheck(t, []checkCase{
		{"G(r)", errForm, 1},
		{"G[a][n](r)", errForm, 2},
		{"G[,0][n](r)", errForm, 2},
		{"G[n](r)", errForm, 2},
		{"G[](r)", errForm, 3},
		{"G[00][n](r)", errForm, 3},
		{"G[][](r)", errForm, 4},
		{"G[][0](r)", errForm, 4},
		{"G[][m](r)", errForm, 4},
		{"G[][N](r)", errForm, 4},
		{"G[][n0](r)", errForm, 5},
		{"G[][n,n](r)", errForm, 5},
		{"G[][s](r)", errForm, 5},
		{"G[][sn](r)", errForm, 5},
		{"G[][s00](r)", errForm, 6},
		{"G[][s0,1](r)", errForm, 6},
		{"G[][n]r", errForm, 6},
		{"G[][n][n](r)", errForm, 6},
		{"G[][n]()", errForm, 7},
		{"G[][n](r,s)", errForm, 8},
		{"G[0](r)", errForm, 4},
		{"G[0,][n](r)", errForm, 4},
		{"G[0][](r)", errForm, 5},
		{"G[0,1,2,3,4,5,6][n](r)", errForm, 13},
	})
}

func TestCheckMoreBehindAQuery(t *testing.T) {
	for _, q := range queriesOfEachForm {
		for _, more := range []string{"(", ")", ",", ";", "[", "]", " ", "\n", "0", "R", "S[0<1](r)", "D(r)", "\x00", "\u00e9"} {
			testCheck(t, []checkCase{{q + more, errForm, len(q)}})
		}
		if strings.HasSuffix(q, ")") {
			testCheck(t, []checkCase{{q + "r", errForm, len(q)}})
		}
	}
}

func TestCheckEndsTooEarly(t *testing.T) {
	for _, q := range []string{
		"S[0<1](r)", "S[0=#-1234](r)", "S[0!$abcd](r)", "P[0,1,2,3,4,5](r)", "J[0=1](r,s)", "U(r,s)", "D(r)",
		"G[][n](r)", "G[0,1][s2](r)", "U(D(D(D(D(D(r))))),J[0=1](r,J[1=0](r,abcd)))", query120,
	} {
		for n := range len(q) {
			testCheck(t, []checkCase{{q[:n], errForm, n}})
		}
	}
}

func TestCheckBytesOutsideASCII(t *testing.T) {
	for _, q := range []string{"r", "S[0=$ab](r)", "S[0=#12](r)", "G[0,1][s2](U(r,s))"} {
		for at := range len(q) + 1 {
			for _, odd := range []string{"\x80", "\xff", "\u00e9", "\uff10", "\u212a", "\U0001f600", "\xe1", "\x7f", "\x00"} {
				testCheck(t, []checkCase{{q[:at] + odd + q[at:], errForm, at}})
			}
		}
	}
}

func TestCheckDeep(t *testing.T) {
	testCheck(t, []checkCase{
		{"D(D(D(D(D(D(r))))))", ok, 0},
		{"D(D(D(D(D(D(D(r)))))))", errDeep, 13},
		{"P[0](P[0](P[0](P[0](P[0](P[0](P[0](r)))))))", errDeep, 34},
		{"D(D(D(D(D(D(S[0<1](r)))))))", errDeep, 18},
		{"D(D(D(D(D(D(P[0,1](r)))))))", errDeep, 18},
		{"D(D(D(D(D(D(J[0=1](r,s)))))))", errDeep, 18},
		{"D(D(D(D(D(D(U(r,s)))))))", errDeep, 13},
		{"D(D(D(D(D(D(G[][n](r)))))))", errDeep, 18},
		{"U(r,D(D(D(D(D(D(r)))))))", errDeep, 15},
		{"U(D(D(D(D(D(D(r)))))),r)", errDeep, 13},
		{"U(D(D(D(D(D(r))))),D(D(D(D(D(D(r)))))))", errDeep, 30},
		{"D(D(D(D(D(U(r,D(r)))))))", errDeep, 15},
		{"D(D(D(D(D(U(r,s))))))", ok, 0},
	})
}

func TestCheckFormOrDeepWhicheverIsFirst(t *testing.T) {
	testCheck(t, []checkCase{
		{"D(D(D(D(D(D(D", errForm, 13},
		{"D(D(D(D(D(D(Dr", errForm, 13},
		{"D(D(D(D(D(D(", errForm, 12},
		{"D(D(D(D(D(D((", errForm, 12}, // a bracket that cannot stand there at all
		{"D(D(D(D(D(D(r(", errForm, 13},
		{"D(D(D(D(D(D(S(r", errForm, 13},
		{"D(D(D(D(D(D(S[0>1](r", errForm, 15},
		{"D(D(D(D(D(D(D(", errDeep, 13},
		{"D(D(D(D(D(D(D(D(R", errDeep, 13},
		{"D(D(D(D(D(D(D(\xff", errDeep, 13},
		{"U(R,D(D(D(D(D(D(r)))))))", errForm, 2},
		{"U(r;D(D(D(D(D(D(r)))))))", errForm, 3},
		{"U(D(D(D(D(D(D(r)))))),R)", errDeep, 13},
	})
}

func TestCheckMany(t *testing.T) {
	testCheck(t, []checkCase{
		{"J[0=0](r,s)", ok, 0},
		{"J[0=0](r,J[0=0](r,r))", ok, 0},
		{"J[0=0](J[0=0](r,r),r)", ok, 0},
		{"U(J[0=0](r,r),J[0=0](r,r))", ok, 0},
		{"J[0=0](r,J[0=0](r,J[0=0](r,r)))", errMany, 0},
		{"J[0=0](J[0=0](J[0=0](r,r),r),r)", errMany, 0},
		{"J[0=0](J[0=0](r,r),J[0=0](r,r))", errMany, 0},
		{"U(J[0=0](r,r),U(J[0=0](r,r),J[0=0](r,r)))", errMany, 0},
		{"U(U(J[0=0](r,r),J[0=0](r,r)),U(J[0=0](r,r),J[0=0](r,r)))", errMany, 0},
		{"D(D(D(J[0=0](J[0=0](J[0=0](r,r),r),r))))", errMany, 0},
	})
}

func TestCheckFormAndDeepAheadOfMany(t *testing.T) {
	testCheck(t, []checkCase{
		{"JJJ", errForm, 1},
		{"J[0=0](r,J[0=0](r,J[0=0](r,r))", errForm, 30},
		{"J[0=0](r,J[0=0](r,J[0=0](r,r))))", errForm, 31},
		{"J[0=0](r,J[0=0](r,J[0=0](r)))", errForm, 26},
		{"J[0=0](r,J[0=0](r,J[0=0](r,r)),R)", errForm, 30},
		{"J[0=0](r,J[0=0](r,J[0=0](r,D(D(D(D(r)))))))", errDeep, 34},
		{"U(J[0=0](J[0=0](J[0=0](r,r),r),r),D(D(D(D(D(D(r)))))))", errDeep, 45},
		{strings.Repeat("J[0=0](", 6) + "J[0=0](", errDeep, 48},
		{strings.Repeat("J[0=0](r,", 14), errLong, 0},
	})
}
