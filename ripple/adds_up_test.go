package ripple_test

import (
	"maps"
	"slices"
	"strings"
	"testing"

	"ripple/ripple"
)

// ledger adds up what a session tells of its views. A slow session is called
// alike.
type ledger struct {
	*testing.T
	s    *ripple.Session
	slow *slowSession
	sums []times
}

func newLedger(t *testing.T, tables [][2]string) *ledger {
	t.Helper()
	l := &ledger{T: t, s: ripple.New(), slow: newSlowSession()}
	for _, table := range tables {
		if e := l.s.Table(table[0], table[1]); e != ok {
			t.Fatalf("Table(%q, %q) = %d", table[0], table[1], e)
		}
		l.slow.Table(table[0], table[1])
	}
	return l
}

// view makes a view, unless the query is refused.
func (l *ledger) view(query string) (told string, isView bool) {
	l.Helper()
	n, told, e := l.s.View(query)
	_, _, want := l.slow.View(query)
	if e != want {
		l.Fatalf("View(%q) = %d, want %d", query, e, want)
	}
	if e != ok {
		return "", false
	}
	if n != len(l.sums) {
		l.Fatalf("View(%q) = %d, want %d", query, n, len(l.sums))
	}
	l.sums = append(l.sums, readTimes(told))
	return told, true
}

// feed gives what is told of each view.
func (l *ledger) feed(batch string) []string {
	l.Helper()
	told, e := l.s.Feed(batch)
	if _, want := l.slow.Feed(batch); e != want || e != ok {
		l.Fatalf("Feed(%q) = %d, want %d", batch, e, want)
	}
	changes := strings.Split(told, "|")[:len(l.sums)]
	for n, change := range changes {
		l.sums[n].add(readTimes(change), 1)
	}
	return changes
}

// check holds each view against what has been told of it, and against its
// query reckoned anew (P8).
func (l *ledger) check(behind string) {
	l.Helper()
	for n, sum := range l.sums {
		shown, e := l.s.Show(n)
		if e != ok || shown != sum.written() {
			l.Fatalf("behind %s: Show(%d) of %s = %q, %d, told was %q", behind, n, l.slow.views[n], shown, e, sum.written())
		}
		if anew := l.slow.bagOf(l.slow.views[n]).written(); shown != anew {
			l.Fatalf("behind %s: Show(%d) of %s = %q, reckoned anew it is %q", behind, n, l.slow.views[n], shown, anew)
		}
		for row, there := range readTimes(shown) {
			if there <= 0 {
				l.Fatalf("behind %s: Show(%d) of %s has %s %d times", behind, n, l.slow.views[n], row, there)
			}
		}
	}
}

// takenBatch makes up a batch that is not refused.
func (c chooser) takenBatch(s *slowSession) string {
	for {
		var changes []string
		for range c.IntN(8) {
			changes = append(changes, c.change(s))
		}
		batch := strings.Join(changes, ";")
		if _, e := s.changed(batch); e == ok && len(batch) <= 300 {
			return batch
		}
	}
}

// change makes up one change; what goes is mostly there.
func (c chooser) change(s *slowSession) string {
	table := c.types[c.IntN(len(c.types))]
	sign := c.of(strings.Split(c.signs, "")...)
	there := slices.Sorted(maps.Keys(s.rows[table[0]]))
	if sign == "-" && len(there) > 0 {
		return sign + table[0] + c.of(there...)
	}
	return sign + table[0] + "(" + c.list(table[1]) + ")"
}

// viewOfAny makes a view of some made-up query.
func (l *ledger) viewOfAny(c chooser) {
	l.Helper()
	for {
		if _, isView := l.view(c.query()); isView {
			return
		}
	}
}

// TestWhatIsToldAddsUp (P8): over many batches, for queries of all forms
// within one another.
func TestWhatIsToldAddsUp(t *testing.T) {
	met := map[string]int{}
	for seed := range uint64(250) {
		c := newChooser(1000 + seed)
		l := newLedger(t, c.types)
		for round := range 6 {
			l.viewOfAny(c)
			l.check("View")
			for range 1 + round {
				batch := c.takenBatch(l.slow)
				l.feed(batch)
				l.check(batch)
			}
		}
		for n, query := range l.slow.views {
			if len(l.sums[n]) > 0 {
				noteForms(query, 0, met)
			}
		}
	}
	for outer := range strings.SplitSeq("S P J U D G", " ") {
		for inner := range strings.SplitSeq("S P J U D G r", " ") {
			if met[outer+inner] < 20 {
				t.Errorf("%s within %s is met only %d times", inner, outer, met[outer+inner])
			}
		}
	}
	if met["deepest"] < 20 {
		t.Errorf("queries as deep as they may be are met only %d times", met["deepest"])
	}
	t.Log("how often each form was met within each other:", met)
}

// noteForms counts which form of query is within which.
func noteForms(query string, depth int, met map[string]int) {
	head, inputs := parts(query)
	if depth == 6 {
		met["deepest"]++
	}
	for _, input := range inputs {
		inner := input[:1]
		if strings.ToLower(inner) == inner {
			inner = "r"
		}
		met[head[:1]+inner]++
		noteForms(input, depth+1, met)
	}
}

// TestViewsMadeEarlyAndLate: views of one query have one bag and tell one
// change, whenever they were made.
func TestViewsMadeEarlyAndLate(t *testing.T) {
	for seed := range uint64(150) {
		c := newChooser(2000 + seed)
		l := newLedger(t, c.types)
		l.viewOfAny(c)
		l.viewOfAny(c)
		for late := 2; late < 6; late++ {
			for range 4 {
				l.feed(c.takenBatch(l.slow))
			}
			early := late % 2
			told, _ := l.view(l.slow.views[early])
			if shown, _ := l.s.Show(early); told != shown {
				t.Fatalf("session %d: View(%q) tells %q, the view made early has %q", seed, l.slow.views[early], told, shown)
			}
		}
		for range 5 {
			batch := c.takenBatch(l.slow)
			changes := l.feed(batch)
			for n, change := range changes {
				if change != changes[n%2] {
					t.Fatalf("session %d: Feed(%q) tells %q of view %d, and %q of view %d, which have one query", seed, batch, changes[n%2], n%2, change, n)
				}
			}
			l.check(batch)
		}
	}
}
