package ripple_test

import (
	"strings"
	"testing"

	"ripple/ripple"
)

// caller makes calls of one session and holds what they answer against what
// they must answer.
type caller struct {
	*testing.T
	s *ripple.Session
}

// newCaller's session has these tables, each written as name:types.
func newCaller(t *testing.T, tables ...string) caller {
	t.Helper()
	c := caller{t, ripple.New()}
	if c.s == nil {
		t.Fatal("New() = nil")
	}
	for _, table := range tables {
		name, types, _ := strings.Cut(table, ":")
		c.table(name, types, ok)
	}
	return c
}

func (c caller) table(name, types string, want ripple.Errno) {
	c.Helper()
	if e := c.s.Table(name, types); e != want {
		c.Errorf("Table(%.30q, %.30q) = %d, want %d", name, types, e, want)
	}
}

func (c caller) view(query string, n int, told string) {
	c.Helper()
	c.viewAnswers(query, n, told, ok)
}

func (c caller) viewRefused(query string, want ripple.Errno) {
	c.Helper()
	c.viewAnswers(query, 0, "", want)
}

func (c caller) viewAnswers(query string, n int, told string, want ripple.Errno) {
	c.Helper()
	if gotN, got, e := c.s.View(query); gotN != n || got != told || e != want {
		c.Errorf("View(%.130q) = %d, %q, %d, want %d, %q, %d", query, gotN, got, e, n, told, want)
	}
}

func (c caller) feed(batch, told string) {
	c.Helper()
	c.feedAnswers(batch, told, ok)
}

func (c caller) feedRefused(batch string, want ripple.Errno) {
	c.Helper()
	c.feedAnswers(batch, "", want)
}

func (c caller) feedAnswers(batch, told string, want ripple.Errno) {
	c.Helper()
	if got, e := c.s.Feed(batch); got != told || e != want {
		c.Errorf("Feed(%.310q) = %q, %d, want %q, %d", batch, got, e, told, want)
	}
}

func (c caller) show(n int, told string) {
	c.Helper()
	if got, e := c.s.Show(n); got != told || e != ok {
		c.Errorf("Show(%d) = %q, %d, want %q, %d", n, got, e, told, ok)
	}
}

func (c caller) showRefused(n int) {
	c.Helper()
	if got, e := c.s.Show(n); got != "" || e != errView {
		c.Errorf("Show(%d) = %q, %d, want \"\", %d", n, got, e, errView)
	}
}

// bagOf tells the bag of a query over one table r of these types, behind a batch.
func bagOf(t *testing.T, types, batch, query string) string {
	t.Helper()
	c := newCaller(t, "r:"+types)
	c.feed(batch, "")
	_, told, e := c.s.View(query)
	if e != ok {
		t.Errorf("View(%q) = %d, want %d", query, e, ok)
	}
	c.show(0, told)
	return told
}

// several writes a change to be made n times in one batch.
func several(n int, change string) string {
	return strings.TrimSuffix(strings.Repeat(change+";", n), ";")
}

// TestExamplesOfASession: the document's examples, but for those of Check.
func TestExamplesOfASession(t *testing.T) {
	c := newCaller(t, "r:it")
	c.view("r", 0, "")
	c.view("S[0<#5](r)", 1, "")
	c.view("G[1][s0](r)", 2, "")
	c.viewRefused("x", errTable)
	c.viewRefused("S[0=1](r)", errType)
	c.viewRefused("P[2](r)", errType)
	c.feed("+r(1,ab);+r(1,ab);+r(7,b)", "(1,ab)*2;(7,b)*1|(1,ab)*2|(ab,2)*1;(b,7)*1")
	c.feed("-r(1,ab);+r(3,b)", "(1,ab)*-1;(3,b)*1|(1,ab)*-1;(3,b)*1|(ab,1)*1;(ab,2)*-1;(b,7)*-1;(b,10)*1")
	c.show(2, "(ab,1)*1;(b,10)*1")
	c.feedRefused("-r(9,b)", errMinus)
	c.feed("-r(9,b);+r(9,b)", "||")
	c.feedRefused("+r(1)", errType)
	c.feedRefused("+q(1)", errTable)
	c.feed("", "||")

	c = newCaller(t, "r:it", "s:ti")
	c.feed("+r(1,a);+r(1,a);+r(2,b);+s(a,5);+s(a,5);+s(a,5)", "")
	c.view("J[1=0](r,s)", 0, "(1,a,a,5)*6")
	c.view("G[][n](J[1=0](r,s))", 1, "(6)*1")
	c.view("D(P[1](r))", 2, "(a)*1;(b)*1")
	c.view("U(P[1](r),P[0](s))", 3, "(a)*5;(b)*1")
	c.view("G[0][n](U(P[1](r),P[0](s)))", 4, "(a,5)*1;(b,1)*1")
	c.view("G[][n](r)", 5, "(3)*1")
	c.feed("-r(1,a);-r(1,a);-r(2,b)", "(1,a,a,5)*-6|(6)*-1|(a)*-1;(b)*-1|(a)*-2;(b)*-1|(a,3)*1;(a,5)*-1;(b,1)*-1|(3)*-1")
	c.show(5, "")
}
