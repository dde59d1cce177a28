package ripple

import "strings"

// reader goes over a text from the left. It never steps over a byte that
// cannot stand where it is, so that where it stops is the place of the fault.
type reader struct {
	text string
	at   int
}

// query reads the whole text as one query. Brackets are counted here and not
// by calls within calls, so that both a bracket too deep and the end of the
// text are met in one place.
func (r *reader) query() Errno {
	var awaited [maxDepth]int // of each open bracket: the queries still to come in it
	depth := 0
queries:
	for {
		part := kindOf(r.next())
		if !r.head(part) {
			return ErrForm
		}
		if part != kindTable {
			// A bracket that cannot stand here is no bracket too deep.
			if r.next() != '(' {
				return ErrForm
			}
			if depth == maxDepth {
				return ErrDeep
			}
			r.at++
			awaited[depth] = part.inputs()
			depth++
			continue queries
		}
		for {
			if depth == 0 {
				break queries
			}
			awaited[depth-1]--
			if awaited[depth-1] > 0 {
				if !r.take(',') {
					return ErrForm
				}
				continue queries
			}
			if !r.take(')') {
				return ErrForm
			}
			depth--
		}
	}
	if r.at < len(r.text) {
		return ErrForm
	}
	return OK
}

// head reads what a part has ahead of its brackets; of a table, its name.
func (r *reader) head(part kind) bool {
	switch part {
	case kindTable:
		return r.letters(maxName)
	case kindSelect:
		return r.take('S') && r.take('[') && r.digit() && r.takeOneOf("<=!") && r.operand() && r.take(']')
	case kindPick:
		return r.take('P') && r.take('[') && r.columns()
	case kindJoin:
		return r.take('J') && r.take('[') && r.digit() && r.take('=') && r.digit() && r.take(']')
	case kindUnion:
		return r.take('U')
	case kindDistinct:
		return r.take('D')
	case kindGroup:
		return r.take('G') && r.take('[') && (r.take(']') || r.columns()) && r.fold()
	}
	return false
}

// columns reads one to maxColumns digits and the bracket that ends them.
func (r *reader) columns() bool {
	for n := 1; r.digit(); n++ {
		if n == maxColumns || !r.take(',') {
			return r.take(']')
		}
	}
	return false
}

// operand reads what a column is compared with.
func (r *reader) operand() bool {
	switch {
	case r.take('#'):
		return r.number()
	case r.take('$'):
		return r.letters(maxText)
	}
	return r.digit()
}

// fold reads what is told of a group: how many rows, or a column's sum.
func (r *reader) fold() bool {
	if !r.take('[') {
		return false
	}
	if r.take('s') {
		return r.digit() && r.take(']')
	}
	return r.take('n') && r.take(']')
}

// number reads 0, or a number that does not begin with 0.
func (r *reader) number() bool {
	if r.take('-') {
		return r.digits()
	}
	return r.take('0') || r.digits()
}

// digits reads one to maxDigits digits of which the first is not 0.
func (r *reader) digits() bool {
	if r.next() == '0' {
		return false
	}
	return r.several(maxDigits, '0', '9')
}

// letters reads one to most letters.
func (r *reader) letters(most int) bool {
	return r.several(most, 'a', 'z')
}

// digit reads one digit: a column.
func (r *reader) digit() bool {
	return r.several(1, '0', '9')
}

// several reads one to most bytes from low to high.
func (r *reader) several(most int, low, high byte) bool {
	from := r.at
	for r.at-from < most && low <= r.next() && r.next() <= high {
		r.at++
	}
	return r.at > from
}

// takeOneOf reads one byte, if it is one of these.
func (r *reader) takeOneOf(these string) bool {
	if strings.IndexByte(these, r.next()) < 0 {
		return false
	}
	r.at++
	return true
}

// take reads one byte, if it is this one.
func (r *reader) take(this byte) bool {
	if r.next() != this {
		return false
	}
	r.at++
	return true
}

// next is the byte that is to be read. Behind the text's end it is 0: no byte
// of a query is 0, so the two need not be told apart.
func (r *reader) next() byte {
	if r.at < len(r.text) {
		return r.text[r.at]
	}
	return 0
}
