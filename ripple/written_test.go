package ripple_test

import (
	"slices"
	"strconv"
	"strings"
	"testing"
)

// testRising feeds rows in several orders, a row a batch, and holds what is
// told at last against these rows as they stand.
func testRising(t *testing.T, types string, rows []string) {
	t.Helper()
	backward := slices.Clone(rows)
	slices.Reverse(backward)
	half := len(rows) / 2
	for _, order := range [][]string{rows, backward, slices.Concat(rows[half:], rows[:half])} {
		c := newCaller(t, "r:"+types)
		c.view("r", 0, "")
		for _, row := range order {
			c.feed("+r"+row, row+"*1")
		}
		c.show(0, strings.Join(rows, "*1;")+"*1")
		c.view("r", 1, strings.Join(rows, "*1;")+"*1")
	}
}

func TestWrittenNumbers(t *testing.T) {
	testRising(t, "i", []string{
		"(-9999)", "(-9998)", "(-1000)", "(-999)", "(-101)", "(-100)", "(-99)", "(-20)", "(-11)", "(-10)", "(-9)", "(-2)", "(-1)",
		"(0)", "(1)", "(2)", "(9)", "(10)", "(11)", "(20)", "(99)", "(100)", "(101)", "(999)", "(1000)", "(9998)", "(9999)",
	})
}

func TestWrittenTexts(t *testing.T) {
	testRising(t, "t", []string{
		"(a)", "(aa)", "(aaa)", "(aaaa)", "(aaab)", "(aab)", "(ab)", "(abc)", "(abcd)", "(abd)", "(az)", "(b)", "(ba)", "(baaa)", "(c)", "(i)", "(n)", "(z)", "(za)", "(zz)", "(zzzz)",
	})
}

// TestWrittenRows: the first values that differ tell which row is lower.
func TestWrittenRows(t *testing.T) {
	testRising(t, "it", []string{"(-10,b)", "(-9,a)", "(-9,ab)", "(-9,b)", "(0,zzzz)", "(1,a)", "(1,aa)", "(2,a)", "(10,a)"})
	testRising(t, "ti", []string{"(a,-1)", "(a,0)", "(a,9)", "(a,10)", "(ab,-2)", "(ab,1)", "(b,-9999)"})
	testRising(t, "itit", []string{"(1,a,1,a)", "(1,a,1,b)", "(1,a,2,a)", "(1,b,-1,a)", "(1,b,1,a)", "(2,a,-5,a)", "(10,a,1,a)"})
	testRising(t, "iiii", []string{"(-1,9,9,9)", "(0,0,0,0)", "(0,0,0,1)", "(0,0,1,0)", "(0,1,-1,0)", "(0,1,0,-1)", "(0,1,0,0)", "(1,-9,0,0)"})
	testRising(t, "tttt", []string{"(a,a,a,a)", "(a,a,a,b)", "(a,a,ab,a)", "(a,ab,a,a)", "(ab,a,a,a)", "(abc,a,a,a)", "(b,a,a,a)"})
}

// TestWrittenEveryNumber: each number there is comes and goes as it is written.
func TestWrittenEveryNumber(t *testing.T) {
	c := newCaller(t, "r:i")
	c.view("r", 0, "")
	for n := -9999; n <= 9999; n++ {
		row := "(" + strconv.Itoa(n) + ")"
		c.feed("+r"+row, row+"*1")
		c.show(0, row+"*1")
		c.feed("-r"+row, row+"*-1")
		if t.Failed() {
			return
		}
	}
	c.show(0, "")
}

func TestWrittenTimes(t *testing.T) {
	c := newCaller(t, "r:i")
	c.view("r", 0, "")
	for _, n := range []int{1, 2, 9, 10, 11, 20, 37} {
		c.feed(several(n, "+r(7)"), "(7)*"+strconv.Itoa(n))
		c.show(0, "(7)*"+strconv.Itoa(n))
		c.feed(several(n, "-r(7)"), "(7)*-"+strconv.Itoa(n))
		c.show(0, "")
	}
}

// TestWrittenChanges: rows that come and rows that go in one rising order.
func TestWrittenChanges(t *testing.T) {
	c := newCaller(t, "r:it")
	c.view("r", 0, "")
	c.feed("+r(2,b);+r(-2,b);+r(10,ab);+r(10,ab);+r(2,b)", "(-2,b)*1;(2,b)*2;(10,ab)*2")
	c.feed("+r(2,a);-r(10,ab);+r(-10,z);-r(-2,b);-r(2,b);+r(10,a);-r(10,ab)", "(-10,z)*1;(-2,b)*-1;(2,a)*1;(2,b)*-1;(10,a)*1;(10,ab)*-2")
	c.show(0, "(-10,z)*1;(2,a)*1;(2,b)*1;(10,a)*1")
}

// TestWrittenRowsOfUnlikeWidth: of one view each row is written with its own
// values, whatever was written ahead.
func TestWrittenRowsOfUnlikeWidth(t *testing.T) {
	c := newCaller(t, "r:iiii")
	c.view("P[0,1,2,3,0,1](r)", 0, "")
	c.view("P[3](r)", 1, "")
	c.feed("+r(-1,22,-333,4444)", "(-1,22,-333,4444,-1,22)*1|(4444)*1")
}
