package ripple_test

import (
	"cmp"
	"maps"
	"slices"
	"strconv"
	"strings"

	"ripple/ripple"
)

// session is what a session of the program and a slow one have in common.
type session interface {
	Table(name string, types string) ripple.Errno
	View(query string) (int, string, ripple.Errno)
	Feed(batch string) (string, ripple.Errno)
	Show(view int) (string, ripple.Errno)
}

// times says of rows, as they are written, how many times each is there.
type times map[string]int

// slowSession answers as a session must, but keeps no more than the tables'
// rows and the views' queries, and reckons everything anew from them.
type slowSession struct {
	types map[string]string
	rows  map[string]times
	views []string
}

func newSlowSession() *slowSession {
	return &slowSession{types: map[string]string{}, rows: map[string]times{}}
}

func (s *slowSession) Table(name string, types string) ripple.Errno {
	if !matches("word", name) || !matches("types", types) {
		return errForm
	}
	if len(s.types) == 4 {
		return errMany
	}
	if s.types[name] != "" {
		return errTable
	}
	s.types[name] = types
	s.rows[name] = times{}
	return ok
}

func (s *slowSession) View(query string) (int, string, ripple.Errno) {
	if e, _ := slowCheck(query); e != ok {
		return 0, "", e
	}
	if len(s.views) == 6 {
		return 0, "", errMany
	}
	if !s.hasTables(query) {
		return 0, "", errTable
	}
	if s.typesOf(query) == "" {
		return 0, "", errType
	}
	s.views = append(s.views, query)
	return len(s.views) - 1, s.bagOf(query).written(), ok
}

func (s *slowSession) Show(view int) (string, ripple.Errno) {
	if view < 0 || view >= len(s.views) {
		return "", errView
	}
	return s.bagOf(s.views[view]).written(), ok
}

func (s *slowSession) Feed(batch string) (string, ripple.Errno) {
	if len(batch) > 300 {
		return "", errLong
	}
	if !matches("batch", batch) {
		return "", errForm
	}
	next, e := s.changed(batch)
	if e != ok {
		return "", e
	}
	before := s.bags()
	s.rows = next
	var told []string
	for i, bag := range s.bags() {
		bag.add(before[i], -1)
		told = append(told, bag.written())
	}
	return strings.Join(told, "|"), ok
}

// changed tells the tables' rows as they are behind a batch.
func (s *slowSession) changed(batch string) (map[string]times, ripple.Errno) {
	e := ok
	next := map[string]times{}
	for name, rows := range s.rows {
		next[name] = maps.Clone(rows)
	}
	for _, change := range strings.Split(batch, ";") {
		if change == "" {
			continue
		}
		name, row := change[1:strings.IndexByte(change, '(')], change[strings.IndexByte(change, '('):]
		switch {
		case s.types[name] == "":
			return nil, errTable
		case typesOfRow(row) != s.types[name]:
			e = errType
		case change[0] == '+':
			next[name][row]++
		default:
			next[name][row]--
		}
	}
	if e != ok {
		return nil, e
	}
	sum := 0
	for _, rows := range next {
		for _, n := range rows {
			if n < 0 {
				return nil, errMinus
			}
			sum += n
		}
	}
	if sum > 60 {
		return nil, errFull
	}
	return next, ok
}

func (s *slowSession) bags() []times {
	var bags []times
	for _, query := range s.views {
		bags = append(bags, s.bagOf(query))
	}
	return bags
}

// parts gives what a query has ahead of its brackets, and the queries in them.
func parts(query string) (head string, inputs []string) {
	head, rest, hasInputs := strings.Cut(query, "(")
	if !hasInputs {
		return head, nil
	}
	depth, from := 0, 0
	for at := range len(rest) {
		switch rest[at] {
		case '(', '[':
			depth++
		case ']':
			depth--
		case ',', ')':
			if depth == 0 {
				inputs = append(inputs, rest[from:at])
				from = at + 1
			} else if rest[at] == ')' {
				depth--
			}
		}
	}
	return head, inputs
}

func (s *slowSession) hasTables(query string) bool {
	head, inputs := parts(query)
	for _, input := range inputs {
		if !s.hasTables(input) {
			return false
		}
	}
	return len(inputs) > 0 || s.types[head] != ""
}

// pickLetters gives the letters at these digits, or nothing if one is not there.
func pickLetters(from, digits string) string {
	var picked string
	for i := range len(digits) {
		at := int(digits[i] - '0')
		if at >= len(from) {
			return ""
		}
		picked += from[at : at+1]
	}
	return picked
}

// typesOf gives nothing, if the query is not typed.
func (s *slowSession) typesOf(query string) string {
	head, inputs := parts(query)
	var types []string
	for _, input := range inputs {
		types = append(types, s.typesOf(input))
	}
	if slices.Contains(types, "") {
		return ""
	}
	typesOfKind := map[byte]func(head string, types []string) string{'S': typesOfS, 'P': typesOfP, 'J': typesOfJ, 'U': typesOfU, 'D': typesOfD, 'G': typesOfG}[head[0]]
	if typesOfKind == nil {
		return s.types[head]
	}
	if of := typesOfKind(head, types); len(of) <= 6 {
		return of
	}
	return ""
}

func typesOfS(head string, types []string) string {
	operand := head[4 : len(head)-1]
	one, other := pickLetters(types[0], head[2:3]), ""
	switch operand[0] {
	case '#':
		other = "i"
	case '$':
		other = "t"
	default:
		other = pickLetters(types[0], operand)
	}
	if one != "" && one == other {
		return types[0]
	}
	return ""
}

func typesOfP(head string, types []string) string {
	return pickLetters(types[0], digitsIn(head))
}

func typesOfJ(head string, types []string) string {
	one, other := pickLetters(types[0], head[2:3]), pickLetters(types[1], head[4:5])
	if one != "" && one == other {
		return types[0] + types[1]
	}
	return ""
}

func typesOfU(_ string, types []string) string {
	if types[0] == types[1] {
		return types[0]
	}
	return ""
}

func typesOfD(_ string, types []string) string {
	return types[0]
}

func typesOfG(head string, types []string) string {
	keys, fold, _ := strings.Cut(head, "][")
	picked := pickLetters(types[0], digitsIn(keys))
	if digitsIn(keys) != "" && picked == "" {
		return ""
	}
	if fold[0] == 's' && pickLetters(types[0], digitsIn(fold)) != "i" {
		return ""
	}
	return picked + "i"
}

// digitsIn gives the digits of a text without what stands between them.
func digitsIn(text string) string {
	return strings.Map(func(r rune) rune {
		if '0' <= r && r <= '9' {
			return r
		}
		return -1
	}, text)
}

func (s *slowSession) bagOf(query string) times {
	head, inputs := parts(query)
	bag := times{}
	switch head[0] {
	case 'S':
		for row, n := range s.bagOf(inputs[0]) {
			if chosen(row, head) {
				bag[row] += n
			}
		}
	case 'P':
		for row, n := range s.bagOf(inputs[0]) {
			bag[rowOf(pickValues(row, digitsIn(head)))] += n
		}
	case 'J':
		right := s.bagOf(inputs[1])
		for one, n := range s.bagOf(inputs[0]) {
			for other, m := range right {
				if valueAt(one, head[2:3]) == valueAt(other, head[4:5]) {
					bag[rowOf(slices.Concat(valuesOf(one), valuesOf(other)))] += n * m
				}
			}
		}
	case 'D':
		for row := range s.bagOf(inputs[0]) {
			bag[row] = 1
		}
	case 'G':
		return groups(head, s.bagOf(inputs[0]))
	case 'U':
		bag.add(s.bagOf(inputs[0]), 1)
		bag.add(s.bagOf(inputs[1]), 1)
	default:
		bag.add(s.rows[head], 1)
	}
	maps.DeleteFunc(bag, func(_ string, n int) bool { return n == 0 })
	return bag
}

func groups(head string, rows times) times {
	keys, fold, _ := strings.Cut(head, "][")
	numbers := times{} // by the values of the group, each with a comma behind it
	for row, n := range rows {
		group := ""
		for _, value := range pickValues(row, digitsIn(keys)) {
			group += value + ","
		}
		if fold[0] == 's' {
			summed, _ := strconv.Atoi(valueAt(row, digitsIn(fold)))
			n *= summed
		}
		numbers[group] += n
	}
	told := times{}
	for group, number := range numbers {
		told["("+group+strconv.Itoa(number)+")"] = 1
	}
	return told
}

func chosen(row, head string) bool {
	one, other := valueAt(row, head[2:3]), strings.TrimLeft(head[4:len(head)-1], "#$")
	if head[4] != '#' && head[4] != '$' {
		other = valueAt(row, other)
	}
	switch head[3] {
	case '<':
		return orderOfValues(one, other) < 0
	case '=':
		return one == other
	}
	return one != other
}

func (b times) add(other times, factor int) {
	for row, n := range other {
		b[row] += n * factor
	}
}

func (b times) written() string {
	var told []string
	for _, row := range slices.SortedFunc(maps.Keys(b), orderOfRows) {
		if b[row] != 0 {
			told = append(told, row+"*"+strconv.Itoa(b[row]))
		}
	}
	return strings.Join(told, ";")
}

// readTimes reads what written has written.
func readTimes(told string) times {
	b := times{}
	for _, entry := range strings.Split(told, ";") {
		if row, n, isEntry := strings.Cut(entry, "*"); isEntry {
			b[row], _ = strconv.Atoi(n)
		}
	}
	return b
}

func valuesOf(row string) []string {
	return strings.Split(row[1:len(row)-1], ",")
}

func valueAt(row, digit string) string {
	return valuesOf(row)[digit[0]-'0']
}

func pickValues(row, digits string) []string {
	var picked []string
	for i := range len(digits) {
		picked = append(picked, valueAt(row, digits[i:i+1]))
	}
	return picked
}

func rowOf(values []string) string {
	return "(" + strings.Join(values, ",") + ")"
}

func typesOfRow(row string) string {
	var types string
	for _, v := range valuesOf(row) {
		if v[0] >= 'a' {
			types += "t"
		} else {
			types += "i"
		}
	}
	return types
}

func orderOfRows(a, b string) int {
	return slices.CompareFunc(valuesOf(a), valuesOf(b), orderOfValues)
}

func orderOfValues(a, b string) int {
	x, errX := strconv.Atoi(a)
	y, errY := strconv.Atoi(b)
	if errX == nil && errY == nil {
		return cmp.Compare(x, y)
	}
	return cmp.Compare(a, b)
}
