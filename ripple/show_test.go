package ripple_test

import (
	"math"
	"strings"
	"testing"
)

// batchCase is a batch, what it tells, and what is shown behind it.
type batchCase struct {
	batch, told string
	shown       [4]string
}

// testBehindEveryBatch shows four views.
func (c caller) testBehindEveryBatch(cases []batchCase) {
	c.Helper()
	for _, x := range cases {
		c.feed(x.batch, x.told)
		for range 2 { // to be shown changes nothing
			for n, shown := range x.shown {
				c.show(n, shown)
			}
		}
	}
}

func TestShowEveryViewBehindEveryBatch(t *testing.T) {
	c := newCaller(t, "r:it", "q:it")
	c.view("r", 0, "")
	c.view("S[1<$b](r)", 1, "")
	c.view("P[0](r)", 2, "")
	c.view("U(r,q)", 3, "")
	c.testBehindEveryBatch([]batchCase{
		{"", "|||", [4]string{}},
		{"+r(1,a)", "(1,a)*1|(1,a)*1|(1)*1|(1,a)*1", [4]string{"(1,a)*1", "(1,a)*1", "(1)*1", "(1,a)*1"}},
		{"+q(1,a)", "|||(1,a)*1", [4]string{"(1,a)*1", "(1,a)*1", "(1)*1", "(1,a)*2"}},
		{"+r(1,b);+r(1,b)", "(1,b)*2||(1)*2|(1,b)*2", [4]string{"(1,a)*1;(1,b)*2", "(1,a)*1", "(1)*3", "(1,a)*2;(1,b)*2"}},
		{"-r(1,a)", "(1,a)*-1|(1,a)*-1|(1)*-1|(1,a)*-1", [4]string{"(1,b)*2", "", "(1)*2", "(1,a)*1;(1,b)*2"}},
		{"-r(1,b);-r(1,b)", "(1,b)*-2||(1)*-2|(1,b)*-2", [4]string{"", "", "", "(1,a)*1"}},
		{"-q(1,a)", "|||(1,a)*-1", [4]string{}},
	})
}

func TestShowJDAndGBehindEveryBatch(t *testing.T) {
	c := newCaller(t, "r:it", "s:ti")
	c.view("J[1=0](r,s)", 0, "")
	c.view("D(P[1](r))", 1, "")
	c.view("G[1][s0](r)", 2, "")
	c.view("G[][n](U(P[1](r),P[0](s)))", 3, "")
	c.testBehindEveryBatch([]batchCase{
		{"", "|||", [4]string{}},
		{"+r(1,a)", "|(a)*1|(a,1)*1|(1)*1", [4]string{"", "(a)*1", "(a,1)*1", "(1)*1"}},
		{"+s(a,9)", "(1,a,a,9)*1|||(1)*-1;(2)*1", [4]string{"(1,a,a,9)*1", "(a)*1", "(a,1)*1", "(2)*1"}},
		{"+r(2,a);-s(a,9);+s(a,8)", "(1,a,a,8)*1;(1,a,a,9)*-1;(2,a,a,8)*1||(a,1)*-1;(a,3)*1|(2)*-1;(3)*1", [4]string{"(1,a,a,8)*1;(2,a,a,8)*1", "(a)*1", "(a,3)*1", "(3)*1"}},
		{"-r(1,a);+s(b,8)", "(1,a,a,8)*-1||(a,2)*1;(a,3)*-1|", [4]string{"(2,a,a,8)*1", "(a)*1", "(a,2)*1", "(3)*1"}},
		{"-r(2,a);+r(2,b)", "(2,a,a,8)*-1;(2,b,b,8)*1|(a)*-1;(b)*1|(a,2)*-1;(b,2)*1|", [4]string{"(2,b,b,8)*1", "(b)*1", "(b,2)*1", "(3)*1"}},
		{"-r(2,b);-s(a,8);-s(b,8)", "(2,b,b,8)*-1|(b)*-1|(b,2)*-1|(3)*-1", [4]string{}},
	})
}

// TestViewsOfOneQuery: each tells the same, by what it remembers itself.
func TestViewsOfOneQuery(t *testing.T) {
	for _, x := range []struct{ query, first, second, third string }{
		{"J[0=0](r,r)", "(1,a,1,a)*4;(2,b,2,b)*1", "(1,a,1,a)*-3;(2,b,2,b)*3", "(1,a,1,a)*-1;(2,b,2,b)*-4"},
		{"D(r)", "(1,a)*1;(2,b)*1", "", "(1,a)*-1;(2,b)*-1"},
		{"G[1][n](r)", "(a,2)*1;(b,1)*1", "(a,1)*1;(a,2)*-1;(b,1)*-1;(b,2)*1", "(a,1)*-1;(b,2)*-1"},
		{"G[][s0](r)", "(4)*1", "(4)*-1;(5)*1", "(5)*-1"},
	} {
		c := newCaller(t, "r:it")
		c.view(x.query, 0, "")
		c.view(x.query, 1, "")
		c.feed("+r(1,a);+r(1,a);+r(2,b)", x.first+"|"+x.first)
		c.view(x.query, 2, x.first)
		c.view("r", 3, "(1,a)*2;(2,b)*1")
		c.feed("-r(1,a);+r(2,b)", strings.Repeat(x.second+"|", 3)+"(1,a)*-1;(2,b)*1")
		c.feed("-r(1,a);-r(2,b);-r(2,b)", strings.Repeat(x.third+"|", 3)+"(1,a)*-1;(2,b)*-2")
		for n := range 4 {
			c.show(n, "")
		}
	}
}

func TestShowOfNoView(t *testing.T) {
	c := newCaller(t, "r:i")
	c.feed("+r(1)", "")
	for views := range 7 {
		for _, n := range []int{
			-1, -2, -6, 6, 7, 100, 1 << 8, 1 << 16, 1 << 32, -1 << 32, 1<<32 + 1,
			math.MaxInt32, math.MinInt32, math.MaxInt, math.MinInt, math.MaxInt - 1, math.MinInt + 1,
		} {
			c.showRefused(n)
		}
		for n := range views {
			c.show(n, "(1)*1")
		}
		for n := views; n < 7; n++ {
			c.showRefused(n)
		}
		if views < 6 {
			c.view("r", views, "(1)*1")
		}
	}
}
