package ripple_test

import (
	"maps"
	"slices"
	"strings"
	"testing"

	"ripple/ripple"
)

// grammar is the form of a query, of a batch and of a table's types, written
// apart from the program: by each word the ways to write it. A word that is no key stands for itself, or, as x-y,
// for one byte from x to y.
var grammar = map[string][]string{
	"query": {
		"word",
		"S [ 0-9 compare operand ] ( query )",
		"P [ list6 ] ( query )",
		"J [ 0-9 = 0-9 ] ( query , query )",
		"U ( query , query )",
		"D ( query )",
		"G [ ] [ fold ] ( query )",
		"G [ list6 ] [ fold ] ( query )",
	},
	"word":    {"a-z", "a-z a-z", "a-z a-z a-z", "a-z a-z a-z a-z"},
	"compare": {"<", "=", "!"},
	"operand": {"0-9", "# number", "$ word"},
	"number":  {"0", "above", "- above"},
	"above":   {"1-9", "1-9 0-9", "1-9 0-9 0-9", "1-9 0-9 0-9 0-9"},
	"fold":    {"n", "s 0-9"},
	"list6":   {"0-9", "0-9 , list5"},
	"list5":   {"0-9", "0-9 , list4"},
	"list4":   {"0-9", "0-9 , list3"},
	"list3":   {"0-9", "0-9 , list2"},
	"list2":   {"0-9", "0-9 , list1"},
	"list1":   {"0-9"},

	"batch":   {"", "changes"},
	"changes": {"change", "change ; changes"},
	"change":  {"+ word ( values )", "- word ( values )"},
	"values":  {"value", "value , values"},
	"value":   {"number", "word"},

	"types": {"type", "type type", "type type type", "type type type type"},
	"type":  {"i", "t"},
}

// open tells what may come next, where rest is still to be written: each entry
// begins with a word that stands for one byte, or is empty.
func open(rest string, into map[string]int) {
	first, behind, _ := strings.Cut(rest, " ")
	ways, isName := grammar[first]
	if !isName {
		into[rest] = 1
		return
	}
	for _, way := range ways {
		open(strings.TrimSpace(way+" "+behind), into)
	}
}

func stands(word string, b byte) bool {
	if len(word) == 3 {
		return word[0] <= b && b <= word[2]
	}
	return word == string(rune(b))
}

// step tells what may follow the byte b, where one of ahead may come.
func step(ahead map[string]int, b byte) map[string]int {
	next := map[string]int{}
	for rest := range ahead {
		if first, behind, _ := strings.Cut(rest, " "); first != "" && stands(first, b) {
			open(behind, next)
		}
	}
	return next
}

// matches tells whether the grammar has the text as a word of this name.
func matches(name, text string) bool {
	ahead := map[string]int{}
	open(name, ahead)
	for at := range len(text) {
		ahead = step(ahead, text[at])
	}
	return ahead[""] > 0
}

// slowCheck answers as Check must, by trying all that the grammar allows.
func slowCheck(query string) (ripple.Errno, int) {
	if len(query) > 120 {
		return errLong, 0
	}
	ahead := map[string]int{}
	open("query", ahead)
	for at := range len(query) {
		ahead = step(ahead, query[at])
		if len(ahead) == 0 {
			return errForm, at
		}
		seen := query[:at]
		if query[at] == '(' && strings.Count(seen, "(")-strings.Count(seen, ")") >= 6 {
			return errDeep, at
		}
	}
	if ahead[""] == 0 {
		return errForm, len(query)
	}
	if strings.Count(query, "J") > 2 {
		return errMany, 0
	}
	return ok, 0
}

func testAgainstGrammar(t *testing.T, query string) {
	t.Helper()
	wantE, wantPlace := slowCheck(query)
	if e, place := ripple.Check(query); e != wantE || place != wantPlace {
		t.Errorf("Check(%q) = %d, %d, the grammar says %d, %d", query, e, place, wantE, wantPlace)
	}
}

// telling has a byte of each sort that a query knows, and some that it does not.
const telling = "SPJUDGQansz`{0159:/[](){},;#$<=>!-+. \x00\xc3"

// neighbours gives the texts that differ from q at one place.
func neighbours(q string, yield func(string)) {
	for at := range len(q) + 1 {
		yield(q[:at])
		for i := range len(telling) {
			yield(q[:at] + telling[i:i+1] + q[at:])
		}
		if at == len(q) {
			continue
		}
		yield(q[:at] + q[at+1:])
		for i := range len(telling) {
			yield(q[:at] + telling[i:i+1] + q[at+1:])
		}
	}
}

func TestCheckNeighboursOfQueries(t *testing.T) {
	queries := slices.Concat(queriesOfEachForm, []string{
		"D(D(D(D(D(D(r))))))",
		"D(D(D(D(D(D(D(r)))))))",
		"U(U(r,D(D(D(D(r))))),s)",
		"J[0=0](r,J[0=0](r,s))",
		"J[0=0](r,J[0=0](r,J[0=0](r,s)))",
		"U(S[0<#-12](r),P[1,0](G[0][s1](D(s))))",
	})
	for _, q := range queries {
		neighbours(q, func(text string) { testAgainstGrammar(t, text) })
	}
}

func TestCheckShortTexts(t *testing.T) {
	for a := range 256 {
		testAgainstGrammar(t, string([]byte{byte(a)}))
		for b := range 256 {
			testAgainstGrammar(t, string([]byte{byte(a), byte(b)}))
		}
	}
}

// TestCheckEveryByteAtEveryPlace: each place of one query of each form is given
// each byte there is.
func TestCheckEveryByteAtEveryPlace(t *testing.T) {
	for _, q := range []string{"ab", "S[0<#-10](r)", "S[1=$ab](r)", "S[1!2](r)", "P[0,1](r)", "J[0=1](r,s)", "U(r,s)", "D(r)", "G[][n](r)", "G[0,1][s2](r)"} {
		for at := range len(q) {
			for b := range 256 {
				testAgainstGrammar(t, q[:at]+string([]byte{byte(b)})+q[at+1:])
			}
		}
	}
}

// TestGrammarIsWhole: a word that is misspelt in the grammar would stand for
// itself, and be found by no text.
func TestGrammarIsWhole(t *testing.T) {
	for _, name := range slices.Sorted(maps.Keys(grammar)) {
		for _, word := range strings.Fields(strings.Join(grammar[name], " ")) {
			if _, isName := grammar[word]; !isName && len(word) != 1 && (len(word) != 3 || word[1] != '-') {
				t.Errorf("%s: the word %q stands for nothing", name, word)
			}
		}
	}
}

func FuzzCheck(f *testing.F) {
	for _, q := range queriesOfEachForm {
		f.Add(q)
	}
	f.Add(query120)
	f.Add("D(D(D(D(D(D(D(r)))))))")
	f.Add("J[0=0](r,J[0=0](r,J[0=0](r,s)))")
	f.Fuzz(testAgainstGrammar)
}
