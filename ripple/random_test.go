package ripple_test

import (
	"fmt"
	"math/rand/v2"
	"strings"
	"testing"

	"ripple/ripple"
)

// call is one call of a session: which one, and what it is given.
type call struct {
	name        string
	text, types string
	view        int
}

// on makes the call and writes down what it answers.
func (c call) on(s session) (string, ripple.Errno) {
	switch c.name {
	case "Table":
		e := s.Table(c.text, c.types)
		return fmt.Sprintf("Table(%q, %q) = %d", c.text, c.types, e), e
	case "View":
		n, told, e := s.View(c.text)
		return fmt.Sprintf("View(%q) = %d, %q, %d", c.text, n, told, e), e
	case "Feed":
		told, e := s.Feed(c.text)
		return fmt.Sprintf("Feed(%q) = %q, %d", c.text, told, e), e
	}
	told, e := s.Show(c.view)
	return fmt.Sprintf("Show(%d) = %q, %d", c.view, told, e), e
}

// chooser makes up calls that mostly are not refused. Equal seeds make up
// equal calls.
type chooser struct {
	*rand.Rand
	types [][2]string // names of tables and their types
	signs string      // of changes, as often as they come and go
}

func newChooser(seed uint64) chooser {
	c := chooser{Rand: rand.New(rand.NewPCG(seed, 1))}
	c.signs = c.of("++-", "++++++-", "++++++++++++++-")
	for _, name := range []string{"r", "rs", "abcd", "x"}[:2+c.IntN(3)] {
		c.types = append(c.types, [2]string{name, c.of("it", "it", "ti", "i", "t", "ii", "tit", "itit", "iitt")})
	}
	return c
}

func (c chooser) of(these ...string) string {
	return these[c.IntN(len(these))]
}

func (c chooser) value(typ byte) string {
	if c.IntN(150) == 0 {
		return c.value("it"[c.IntN(2)])
	}
	if typ == 'i' {
		return c.of("0", "1", "-1", "2", "10", "-9999", "9999")
	}
	return c.of("a", "ab", "b", "zzzz")
}

// list writes one value of each type, with commas between.
func (c chooser) list(types string) string {
	var values []string
	for i := range len(types) {
		values = append(values, c.value(types[i]))
	}
	return strings.Join(values, ",")
}

// query makes up a query, mostly typed, and tells its types.
func (c chooser) query(depth int) (query, types string) {
	if depth == 0 || c.IntN(4) == 0 {
		table := c.types[c.IntN(len(c.types))]
		return table[0], table[1]
	}
	query, types = c.query(depth - 1)
	switch c.IntN(3) {
	case 0:
		return c.selection(query, types), types
	case 1:
		digits := ""
		for range 1 + c.IntN(6) {
			digits += c.digit(types)
		}
		return picking(query, digits), pickLetters(types, digits)
	}
	other, otherTypes := c.query(depth - 1)
	digits := ""
	for i := range len(types) {
		at := strings.IndexByte(otherTypes, types[i])
		if at < 0 {
			return "U(" + query + "," + c.selection(query, types) + ")", types
		}
		digits += string(rune('0' + at))
	}
	if types != otherTypes {
		other = picking(other, digits)
	}
	return "U(" + query + "," + other + ")", types
}

func picking(query, digits string) string {
	return "P[" + strings.Join(strings.Split(digits, ""), ",") + "](" + query + ")"
}

func (c chooser) digit(types string) string {
	if c.IntN(30) == 0 {
		return string(rune('0' + c.IntN(10)))
	}
	return string(rune('0' + c.IntN(max(1, len(types)))))
}

func (c chooser) selection(query, types string) string {
	digit := c.digit(types)
	typ := pickLetters(types, digit)
	operand := c.digit(types)
	if pickLetters(types, operand) != typ || c.IntN(2) == 0 {
		operand = map[string]string{"i": "#", "t": "$", "": "#"}[typ] + c.value((typ + "i")[0])
	}
	return "S[" + digit + c.of("<", "=", "!") + operand + "](" + query + ")"
}

func (c chooser) batch() string {
	var changes []string
	for range c.IntN(9) {
		table := c.types[c.IntN(len(c.types))]
		changes = append(changes, c.of(strings.Split(c.signs, "")...)+table[0]+"("+c.list(table[1])+")")
	}
	if len(changes) > 0 && c.IntN(2) == 0 { // what comes may go again, and the other way round
		again := changes[c.IntN(len(changes))]
		changes = append(changes, c.of("+", "-")+again[1:])
	}
	return strings.Join(changes, ";")
}

// spoil writes another byte at some place of a text, or leaves it as it is.
func (c chooser) spoil(text string) string {
	if text == "" || c.IntN(12) > 0 {
		return text
	}
	at, with := c.IntN(len(text)), c.IntN(len(telling))
	return text[:at] + telling[with:with+1] + text[at+c.IntN(2):]
}

// calls makes up the calls of one session.
func (c chooser) calls(n int) []call {
	var calls []call
	for _, table := range c.types {
		calls = append(calls, call{name: "Table", text: table[0], types: table[1]})
	}
	for range n {
		next := call{name: c.of("Feed", "Feed", "Feed", "Feed", "Feed", "Show", "Show", "View", "Table")}
		switch next.name {
		case "Table":
			next.text, next.types = c.spoil(c.of("r", "rs", "abcd", "x", "y")), c.spoil(c.of("it", "i", "tttt"))
		case "View":
			query, _ := c.query(1 + c.IntN(4))
			next.text = c.spoil(query)
		case "Feed":
			next.text = c.spoil(c.batch())
		default:
			next.view = c.IntN(9) - 1
		}
		calls = append(calls, next)
	}
	return calls
}

// TestSessionsAgainstSlowOnes: what each call answers, over many sessions.
func TestSessionsAgainstSlowOnes(t *testing.T) {
	met := map[ripple.Errno]int{}
	for seed := range uint64(400) {
		s, slow := ripple.New(), newSlowSession()
		for _, c := range newChooser(seed).calls(80) {
			got, _ := c.on(s)
			want, e := c.on(slow)
			if got != want {
				t.Fatalf("session %d: %s\nwant %s", seed, got, want)
			}
			met[e]++
		}
	}
	// Calls of which none is ever refused so would not tell of this refusal.
	for _, e := range []ripple.Errno{ok, errForm, errMany, errTable, errType, errMinus, errFull, errView} {
		if met[e] < 50 {
			t.Errorf("%d is met only %d times", e, met[e])
		}
	}
	t.Log("how often each answer was met:", met)
}

// TestWhatIsToldAddsUp (P8): what View and Feed have told of each view, added
// up row by row, is what Show tells, behind every call.
func TestWhatIsToldAddsUp(t *testing.T) {
	for seed := range uint64(150) {
		s := ripple.New()
		var sums []times
		for _, c := range newChooser(seed).calls(120) {
			switch c.name {
			case "Table":
				s.Table(c.text, c.types)
			case "View":
				if _, told, e := s.View(c.text); e == ok {
					sums = append(sums, readTimes(told))
				}
			case "Feed":
				told, e := s.Feed(c.text)
				if e != ok {
					break
				}
				for n, change := range strings.Split(told, "|")[:len(sums)] {
					sums[n].add(readTimes(change), 1)
				}
			}
			for n, sum := range sums {
				if shown, e := s.Show(n); shown != sum.written() || e != ok {
					t.Fatalf("session %d, behind %v: Show(%d) = %q, %d, told was %q", seed, c, n, shown, e, sum.written())
				}
			}
		}
	}
}

// TestSessionsByTurns (P2): two sessions that are used by turns tell what each
// tells alone.
func TestSessionsByTurns(t *testing.T) {
	alone := func(calls []call) []string {
		s := ripple.New()
		var answers []string
		for _, c := range calls {
			answer, _ := c.on(s)
			answers = append(answers, answer)
		}
		return answers
	}
	for seed := range uint64(100) {
		calls := [2][]call{newChooser(2 * seed).calls(60), newChooser(2*seed + 1).calls(60)}
		want := [2][]string{alone(calls[0]), alone(calls[1])}
		s := [2]*ripple.Session{ripple.New(), ripple.New()}
		turns := rand.New(rand.NewPCG(seed, 2))
		for len(calls[0])+len(calls[1]) > 0 {
			which := turns.IntN(2)
			if len(calls[which]) == 0 {
				which = 1 - which
			}
			if got, _ := calls[which][0].on(s[which]); got != want[which][0] {
				t.Fatalf("sessions %d: %s\nalone it is %s", seed, got, want[which][0])
			}
			calls[which], want[which] = calls[which][1:], want[which][1:]
		}
	}
}
