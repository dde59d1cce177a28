package ripple

import "strings"

// readQuery reads a text as Check does (P3); of a query it tells the parts.
func readQuery(text string) (query *part, e Errno, place int) {
	if len(text) > maxQuery {
		return nil, ErrLong, 0
	}
	r := reader{text: text}
	if query, e = r.query(); e != OK {
		return nil, e, r.at
	}
	// Names and texts have small letters only, so that in a query each J is a join.
	if strings.Count(text, "J") > maxJoins {
		return nil, ErrMany, 0
	}
	return query, OK, 0
}

// query reads the whole text as one query. Brackets are counted here and not
// by calls within calls, so that both a bracket too deep and the end of the
// text are met in one place.
func (r *reader) query() (*part, Errno) {
	all := &part{}       // its one input is the query
	open := []*part{all} // each within the one ahead of it
queries:
	for {
		p := &part{kind: kindOf(r.next())}
		if !r.head(p) {
			return nil, ErrForm
		}
		outer := open[len(open)-1]
		outer.inputs = append(outer.inputs, p)
		if p.kind != kindTable {
			// A bracket that cannot stand here is no bracket too deep.
			if r.next() != '(' {
				return nil, ErrForm
			}
			if len(open) > maxDepth {
				return nil, ErrDeep
			}
			r.at++
			open = append(open, p)
			continue queries
		}
		for {
			last := len(open) - 1
			if last == 0 {
				break queries
			}
			if len(open[last].inputs) < open[last].kind.inputs() {
				if !r.take(',') {
					return nil, ErrForm
				}
				continue queries
			}
			if !r.take(')') {
				return nil, ErrForm
			}
			open = open[:last]
		}
	}
	if !r.ended() {
		return nil, ErrForm
	}
	return all.inputs[0], OK
}

// head reads what a part has ahead of its brackets; of a table, its name.
func (r *reader) head(p *part) bool {
	switch p.kind {
	case kindTable:
		return r.word(&p.table, maxName)
	case kindSelect:
		return r.take('S') && r.take('[') && r.operandColumn(&p.left) && r.comparison(&p.compare) && r.operand(&p.right) && r.take(']')
	case kindPick:
		return r.take('P') && r.take('[') && r.columns(&p.columns)
	case kindJoin:
		return r.take('J') && r.take('[') && r.operandColumn(&p.left) && r.take('=') && r.operandColumn(&p.right) && r.take(']')
	case kindUnion:
		return r.take('U')
	case kindDistinct:
		return r.take('D')
	case kindGroup:
		return r.take('G') && r.take('[') && (r.take(']') || r.columns(&p.columns)) && r.take('[') && r.weight(&p.weight) && r.take(']')
	}
	return false
}

// columns reads one to maxColumns digits and the bracket that ends them.
func (r *reader) columns(list *[]int) bool {
	var c int
	for r.column(&c) {
		*list = append(*list, c)
		if len(*list) == maxColumns || !r.take(',') {
			return r.take(']')
		}
	}
	return false
}

// comparison reads in which way two things are compared.
func (r *reader) comparison(c *comparison) bool {
	which := strings.IndexByte(comparisonBytes, r.next())
	if which < 0 {
		return false
	}
	r.at++
	*c = comparison(which)
	return true
}

// operand reads what a column is compared with.
func (r *reader) operand(o *operand) bool {
	switch {
	case r.take('#'):
		return r.numberValue(&o.value)
	case r.take('$'):
		return r.textValue(&o.value)
	}
	return r.operandColumn(o)
}

func (r *reader) operandColumn(o *operand) bool {
	o.isColumn = true
	return r.column(&o.column)
}

// weight reads what a row adds to the number of its group: one, or what it has
// in a column.
func (r *reader) weight(o *operand) bool {
	if r.take('s') {
		return r.operandColumn(o)
	}
	o.value = numberOf(1)
	return r.take('n')
}
