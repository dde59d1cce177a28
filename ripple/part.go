package ripple

import "slices"

// part is a query as it is written: what it has ahead of its brackets, and the
// queries within them.
type part struct {
	kind        kind
	table       string     // of a table: its name
	compare     comparison // of S
	left, right operand    // of S and J: what is compared
	columns     []int      // of P and G
	inputs      []*part
}

// operator makes what does the part's work.
func (p *part) operator() operator {
	switch p.kind {
	case kindSelect:
		return &selection{compare: p.compare, left: p.left, right: p.right}
	case kindPick:
		return &picking{columns: p.columns}
	}
	return &union{}
}

// types tells the types of the part's rows by those of its inputs' rows, and
// whether it is typed.
func (p *part) types(inputs [][]valueKind) ([]valueKind, bool) {
	switch p.kind {
	case kindSelect:
		return inputs[0], p.comparesOneType(inputs[0])
	case kindPick:
		if !hasColumns(inputs[0], p.columns) {
			return nil, false
		}
		return pick(inputs[0], p.columns), true
	case kindUnion:
		return inputs[0], slices.Equal(inputs[0], inputs[1])
	}
	return nil, false // J, D and G have no operators yet
}

func (p *part) comparesOneType(types []valueKind) bool {
	left, leftIs := p.left.typeIn(types)
	right, rightIs := p.right.typeIn(types)
	return leftIs && rightIs && left == right
}
