package ripple_test

import (
	"fmt"
	"math/rand/v2"
	"strings"
	"testing"

	"ripple/ripple"
)

// call is one call of a session: which one, and what it is given.
type call struct {
	name        string
	text, types string
	view        int
}

// on makes the call and writes down what it answers.
func (c call) on(s session) (string, ripple.Errno) {
	switch c.name {
	case "Table":
		e := s.Table(c.text, c.types)
		return fmt.Sprintf("Table(%q, %q) = %d", c.text, c.types, e), e
	case "View":
		n, told, e := s.View(c.text)
		return fmt.Sprintf("View(%q) = %d, %q, %d", c.text, n, told, e), e
	case "Feed":
		told, e := s.Feed(c.text)
		return fmt.Sprintf("Feed(%q) = %q, %d", c.text, told, e), e
	}
	told, e := s.Show(c.view)
	return fmt.Sprintf("Show(%d) = %q, %d", c.view, told, e), e
}

// chooser makes up calls that mostly are not refused. Equal seeds make up
// equal calls.
type chooser struct {
	*rand.Rand
	types [][2]string // names of tables and their types
	signs string      // of changes, as often as they come and go
}

func newChooser(seed uint64) chooser {
	c := chooser{Rand: rand.New(rand.NewPCG(seed, 1))}
	c.signs = c.of("++-", "++++++-", "++++++++++++++-")
	for _, name := range []string{"r", "rs", "abcd", "x"}[:2+c.IntN(3)] {
		c.types = append(c.types, [2]string{name, c.of("it", "it", "ti", "i", "t", "ii", "tit", "itit", "iitt")})
	}
	return c
}

func (c chooser) of(these ...string) string {
	return these[c.IntN(len(these))]
}

func (c chooser) value(typ byte) string {
	if c.IntN(150) == 0 {
		return c.value("it"[c.IntN(2)])
	}
	if typ == 'i' {
		return c.of("0", "1", "-1", "2", "10", "-9999", "9999")
	}
	return c.of("a", "ab", "b", "zzzz")
}

// list writes one value of each type, with commas between.
func (c chooser) list(types string) string {
	var values []string
	for i := range len(types) {
		values = append(values, c.value(types[i]))
	}
	return strings.Join(values, ",")
}

// query makes up a query, mostly one that is typed and may be a view.
func (c chooser) query() string {
	for {
		query, _ := c.queryWithin(1 + c.IntN(6))
		if e, _ := slowCheck(query); e == ok || c.IntN(20) == 0 {
			return query
		}
	}
}

// queryWithin makes up a query, mostly typed, with about as many brackets
// within one another, and tells its types.
func (c chooser) queryWithin(brackets int) (query, types string) {
	if brackets == 0 || c.IntN(8) == 0 {
		table := c.types[c.IntN(len(c.types))]
		return table[0], table[1]
	}
	query, types = c.queryWithin(brackets - 1)
	switch c.IntN(7) {
	case 0:
		return c.selection(query, types), types
	case 1:
		digits := c.digits(1+c.IntN(6), types)
		return picking(query, digits), pickLetters(types, digits)
	case 2:
		return "D(" + query + ")", types
	case 3:
		return c.grouping(query, types)
	case 4:
		other, otherTypes := c.queryWithin(brackets - 1)
		return c.union(query, types, other, otherTypes)
	}
	other, otherTypes := c.queryWithin(brackets - 1)
	return c.join(query, types, other, otherTypes)
}

func (c chooser) union(query, types, other, otherTypes string) (string, string) {
	digits := ""
	for i := range len(types) {
		at := strings.IndexByte(otherTypes, types[i])
		if at < 0 {
			return "U(" + query + "," + c.selection(query, types) + ")", types
		}
		digits += string(rune('0' + at))
	}
	if types != otherTypes {
		other = picking(other, digits)
	}
	return "U(" + query + "," + other + ")", types
}

func (c chooser) join(query, types, other, otherTypes string) (string, string) {
	if len(types)+len(otherTypes) > 6 && c.IntN(15) > 0 {
		query, types = c.narrowed(query, types)
		other, otherTypes = c.narrowed(other, otherTypes)
	}
	n, m := c.digit(types), c.digit(otherTypes)
	for i := 0; pickLetters(types, n) != pickLetters(otherTypes, m) && i < 10; i++ {
		n, m = c.digit(types), c.digit(otherTypes)
	}
	return "J[" + n + "=" + m + "](" + query + "," + other + ")", types + otherTypes
}

// narrowed leaves no more than half of the columns that there may be.
func (c chooser) narrowed(query, types string) (string, string) {
	if len(types) <= 3 {
		return query, types
	}
	digits := c.digits(2+c.IntN(2), types)
	return picking(query, digits), pickLetters(types, digits)
}

func (c chooser) grouping(query, types string) (string, string) {
	keys := c.digits(c.IntN(6), types)
	fold := "n"
	if at := strings.IndexByte(types, 'i'); at >= 0 && c.IntN(2) == 0 {
		fold = "s" + c.of(string(rune('0'+at)), c.digit(types))
	}
	return "G[" + strings.Join(strings.Split(keys, ""), ",") + "][" + fold + "](" + query + ")", pickLetters(types, keys) + "i"
}

func picking(query, digits string) string {
	return "P[" + strings.Join(strings.Split(digits, ""), ",") + "](" + query + ")"
}

func (c chooser) digits(n int, types string) string {
	digits := ""
	for range n {
		digits += c.digit(types)
	}
	return digits
}

func (c chooser) digit(types string) string {
	if c.IntN(30) == 0 {
		return string(rune('0' + c.IntN(10)))
	}
	return string(rune('0' + c.IntN(max(1, len(types)))))
}

func (c chooser) selection(query, types string) string {
	digit := c.digit(types)
	typ := pickLetters(types, digit)
	operand := c.digit(types)
	if pickLetters(types, operand) != typ || c.IntN(2) == 0 {
		operand = map[string]string{"i": "#", "t": "$", "": "#"}[typ] + c.value((typ + "i")[0])
	}
	return "S[" + digit + c.of("<", "=", "!") + operand + "](" + query + ")"
}

func (c chooser) batch() string {
	var changes []string
	for range c.IntN(9) {
		table := c.types[c.IntN(len(c.types))]
		changes = append(changes, c.of(strings.Split(c.signs, "")...)+table[0]+"("+c.list(table[1])+")")
	}
	if len(changes) > 0 && c.IntN(2) == 0 { // what comes may go again, and the other way round
		again := changes[c.IntN(len(changes))]
		changes = append(changes, c.of("+", "-")+again[1:])
	}
	return strings.Join(changes, ";")
}

// spoil writes another byte at some place of a text, or leaves it as it is.
func (c chooser) spoil(text string) string {
	if text == "" || c.IntN(12) > 0 {
		return text
	}
	at, with := c.IntN(len(text)), c.IntN(len(telling))
	return text[:at] + telling[with:with+1] + text[at+c.IntN(2):]
}

// calls makes up the calls of one session.
func (c chooser) calls(n int) []call {
	var calls []call
	for _, table := range c.types {
		calls = append(calls, call{name: "Table", text: table[0], types: table[1]})
	}
	for range n {
		next := call{name: c.of("Feed", "Feed", "Feed", "Feed", "Feed", "Show", "Show", "View", "Table")}
		switch next.name {
		case "Table":
			next.text, next.types = c.spoil(c.of("r", "rs", "abcd", "x", "y")), c.spoil(c.of("it", "i", "tttt"))
		case "View":
			next.text = c.spoil(c.query())
		case "Feed":
			next.text = c.spoil(c.batch())
		default:
			next.view = c.IntN(9) - 1
		}
		calls = append(calls, next)
	}
	return calls
}

// TestSessionsAgainstSlowOnes: what each call answers, over many sessions.
func TestSessionsAgainstSlowOnes(t *testing.T) {
	met := map[ripple.Errno]int{}
	for seed := range uint64(250) {
		s, slow := ripple.New(), newSlowSession()
		for _, c := range newChooser(seed).calls(80) {
			got, _ := c.on(s)
			want, e := c.on(slow)
			if got != want {
				t.Fatalf("session %d: %s\nwant %s", seed, got, want)
			}
			met[e]++
		}
	}
	// Calls of which none is ever refused so would not tell of this refusal.
	for _, e := range []ripple.Errno{ok, errForm, errMany, errTable, errType, errMinus, errFull, errView} {
		if met[e] < 50 {
			t.Errorf("%d is met only %d times", e, met[e])
		}
	}
	t.Log("how often each answer was met:", met)
}

// TestSessionsByTurns (P2): two sessions that are used by turns tell what each
// tells alone.
func TestSessionsByTurns(t *testing.T) {
	alone := func(calls []call) []string {
		s := ripple.New()
		var answers []string
		for _, c := range calls {
			answer, _ := c.on(s)
			answers = append(answers, answer)
		}
		return answers
	}
	for seed := range uint64(100) {
		calls := [2][]call{newChooser(2 * seed).calls(60), newChooser(2*seed + 1).calls(60)}
		want := [2][]string{alone(calls[0]), alone(calls[1])}
		s := [2]*ripple.Session{ripple.New(), ripple.New()}
		turns := rand.New(rand.NewPCG(seed, 2))
		for len(calls[0])+len(calls[1]) > 0 {
			which := turns.IntN(2)
			if len(calls[which]) == 0 {
				which = 1 - which
			}
			if got, _ := calls[which][0].on(s[which]); got != want[which][0] {
				t.Fatalf("sessions %d: %s\nalone it is %s", seed, got, want[which][0])
			}
			calls[which], want[which] = calls[which][1:], want[which][1:]
		}
	}
}
