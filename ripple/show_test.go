package ripple_test

import (
	"math"
	"testing"
)

func TestShowEveryViewBehindEveryBatch(t *testing.T) {
	c := newCaller(t, "r:it", "q:it")
	c.view("r", 0, "")
	c.view("S[1<$b](r)", 1, "")
	c.view("P[0](r)", 2, "")
	c.view("U(r,q)", 3, "")
	for _, x := range []struct {
		batch, told string
		shown       [4]string
	}{
		{"", "|||", [4]string{}},
		{"+r(1,a)", "(1,a)*1|(1,a)*1|(1)*1|(1,a)*1", [4]string{"(1,a)*1", "(1,a)*1", "(1)*1", "(1,a)*1"}},
		{"+q(1,a)", "|||(1,a)*1", [4]string{"(1,a)*1", "(1,a)*1", "(1)*1", "(1,a)*2"}},
		{"+r(1,b);+r(1,b)", "(1,b)*2||(1)*2|(1,b)*2", [4]string{"(1,a)*1;(1,b)*2", "(1,a)*1", "(1)*3", "(1,a)*2;(1,b)*2"}},
		{"-r(1,a)", "(1,a)*-1|(1,a)*-1|(1)*-1|(1,a)*-1", [4]string{"(1,b)*2", "", "(1)*2", "(1,a)*1;(1,b)*2"}},
		{"-r(1,b);-r(1,b)", "(1,b)*-2||(1)*-2|(1,b)*-2", [4]string{"", "", "", "(1,a)*1"}},
		{"-q(1,a)", "|||(1,a)*-1", [4]string{}},
	} {
		c.feed(x.batch, x.told)
		for range 2 { // to be shown changes nothing
			for n, shown := range x.shown {
				c.show(n, shown)
			}
		}
	}
}

func TestShowOfNoView(t *testing.T) {
	c := newCaller(t, "r:i")
	c.feed("+r(1)", "")
	for views := range 7 {
		for _, n := range []int{
			-1, -2, -6, 6, 7, 100, 1 << 8, 1 << 16, 1 << 32, -1 << 32, 1<<32 + 1,
			math.MaxInt32, math.MinInt32, math.MaxInt, math.MinInt, math.MaxInt - 1, math.MinInt + 1,
		} {
			c.showRefused(n)
		}
		for n := range views {
			c.show(n, "(1)*1")
		}
		for n := views; n < 7; n++ {
			c.showRefused(n)
		}
		if views < 6 {
			c.view("r", views, "(1)*1")
		}
	}
}
