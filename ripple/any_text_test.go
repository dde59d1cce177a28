package ripple_test

import (
	"strings"
	"testing"

	"ripple/ripple"
)

// pair is a session and a slow one that are called alike.
type pair struct {
	*testing.T
	s    *ripple.Session
	slow *slowSession
}

// newPair's sessions have tables, rows and views.
func newPair(t *testing.T) pair {
	t.Helper()
	p := pair{t, ripple.New(), newSlowSession()}
	for _, c := range []call{
		{name: "Table", text: "r", types: "it"},
		{name: "Table", text: "abcd", types: "ti"},
		{name: "Table", text: "n", types: "i"},
		{name: "Feed", text: "+r(1,a);+r(1,a);+abcd(ab,-10);+n(5)"},
		{name: "View", text: "r"},
		{name: "View", text: "U(P[1,0](r),S[1<#5](abcd))"},
		{name: "View", text: "J[0=0](P[0,0](r),J[1=1](r,D(r)))"},
		{name: "View", text: "G[1][s0](U(r,P[1,0](abcd)))"},
	} {
		p.call(c)
	}
	return p
}

func (p pair) call(c call) {
	p.Helper()
	got, _ := c.on(p.s)
	want, _ := c.on(p.slow)
	if got != want {
		p.Errorf("%s\nwant %s", got, want)
	}
}

var someBatches = []string{
	"+r(1,a)", "-r(1,a)", "+n(0)", "+n(-1)", "+n(9999)", "-abcd(ab,-10)", "-r(1,a);+r(1,a)", "+r(10,zzzz);-abcd(ab,-10);-n(5)",
}

func TestFeedNeighboursOfBatches(t *testing.T) {
	for _, batch := range someBatches {
		p := newPair(t)
		n := 0
		neighbours(batch, func(text string) {
			if n++; n%20 == 0 { // ahead of the tables being full
				p = newPair(t)
			}
			p.call(call{name: "Feed", text: text})
		})
	}
}

func TestViewNeighboursOfQueries(t *testing.T) {
	for _, query := range []string{
		"r", "abcd", "S[0<#-5](r)", "S[1=$ab](r)", "S[0!1](abcd)", "P[1,0](r)", "U(r,P[1,0](abcd))",
		"J[0=0](r,n)", "J[1=0](r,abcd)", "J[0=0](n,J[0=0](n,n))", "D(r)", "G[][n](r)", "G[0,1][s0](r)", "G[0][s1](abcd)", "D(G[][s0](J[0=0](n,r)))",
	} {
		p := newPair(t)
		neighbours(query, func(text string) {
			if len(p.slow.views) == 6 {
				p = newPair(t)
			}
			p.call(call{name: "View", text: text})
		})
	}
}

func TestTableNeighboursOfNamesAndTypes(t *testing.T) {
	for _, x := range [][2]string{{"r", "it"}, {"x", "i"}, {"abcd", "itti"}} {
		neighbours(x[0], func(name string) { newPair(t).call(call{name: "Table", text: name, types: x[1]}) })
		neighbours(x[1], func(types string) { newPair(t).call(call{name: "Table", text: x[0], types: types}) })
	}
}

// TestEveryByteAtEveryPlace: each place of some texts is given each byte there is.
func TestEveryByteAtEveryPlace(t *testing.T) {
	for _, x := range []call{
		{name: "Table", text: "ab", types: "it"},
		{name: "View", text: "S[0=#-5](r)"},
		{name: "View", text: "U(r,S[1!$a](r))"},
		{name: "View", text: "G[0,1][s2](J[1=1](r,r))"},
		{name: "View", text: "D(G[][n](r))"},
		{name: "Feed", text: "+r(-1,ab);-n(5)"},
	} {
		for at := range len(x.text) {
			p := newPair(t)
			for b := range 256 {
				if b%4 == 0 {
					p = newPair(t)
				}
				with := x
				with.text = x.text[:at] + string([]byte{byte(b)}) + x.text[at+1:]
				p.call(with)
			}
		}
		for b := range 256 {
			with := x
			with.types = string([]byte{byte(b)})
			newPair(t).call(with)
		}
	}
}

// TestEachCallOfEachText: texts that are meant for one call, given to the others.
func TestEachCallOfEachText(t *testing.T) {
	for _, text := range []string{
		"", "r", "x", "it", "i", "+r(1,a)", "S[0<#5](r)", "(1,a)*1", "|", ";", "\x00", "\xff\xfe", "\u00e9", "\U0001f600",
		strings.Repeat("(", 100), strings.Repeat("U(", 60), strings.Repeat("-", 300), strings.Repeat("\xff", 100_000),
	} {
		for _, name := range []string{"Table", "View", "Feed"} {
			newPair(t).call(call{name: name, text: text, types: "i"})
			newPair(t).call(call{name: name, text: "x", types: text})
		}
	}
}

func FuzzFeed(f *testing.F) {
	for _, batch := range someBatches {
		f.Add(batch, "")
		f.Add(batch, batch)
	}
	f.Fuzz(func(t *testing.T, first, second string) {
		p := newPair(t)
		for _, batch := range []string{first, second} {
			p.call(call{name: "Feed", text: batch})
			for n := range p.slow.views {
				p.call(call{name: "Show", view: n})
			}
		}
	})
}

func FuzzView(f *testing.F) {
	for seed := range uint64(20) {
		f.Add(newChooser(seed).query())
	}
	f.Add("U(P[1,0](r),abcd)")
	f.Add("S[0!1](P[0,0](r))")
	f.Fuzz(func(t *testing.T, query string) {
		p := newPair(t)
		p.call(call{name: "View", text: query})
		p.call(call{name: "Feed", text: "+r(10,zzzz);-abcd(ab,-10);-r(1,a)"})
		p.call(call{name: "Show", view: len(p.slow.views) - 1})
	})
}
