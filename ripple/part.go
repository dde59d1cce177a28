package ripple

import "slices"

// part is a query as it is written: what it has ahead of its brackets, and the
// queries within them.
type part struct {
	kind        kind
	table       string     // of a table: its name
	compare     comparison // of S
	left, right operand    // of S and J: what is compared
	columns     []int      // of P and G
	weight      operand    // of G: what a row adds to the number of its group
	inputs      []*part
}

// lead makes what does the part's work and gives its changes to the taker; it
// tells for each input whom that one gives its changes.
func (p *part) lead(to taker) []taker {
	if p.kind == kindJoin {
		j := newJoin(p.left.column, p.right.column)
		j.giveTo(to)
		return []taker{&j.left, &j.right}
	}
	o := p.operator()
	o.giveTo(to)
	return slices.Repeat([]taker{o}, p.kind.inputs())
}

// operator makes what does the work of a part that need not tell its inputs
// apart.
func (p *part) operator() operator {
	switch p.kind {
	case kindSelect:
		return &selection{compare: p.compare, left: p.left, right: p.right}
	case kindPick:
		return &picking{columns: p.columns}
	case kindDistinct:
		return &distinct{}
	case kindGroup:
		return &grouping{columns: p.columns, weight: p.weight}
	}
	return &union{}
}

// types tells the types of the part's rows by those of its inputs' rows, and
// whether it is typed.
func (p *part) types(inputs [][]valueKind) ([]valueKind, bool) {
	switch p.kind {
	case kindSelect:
		return inputs[0], p.comparesOneType(inputs[0], inputs[0])
	case kindPick:
		return p.pickedTypes(inputs[0])
	case kindJoin:
		return slices.Concat(inputs...), p.comparesOneType(inputs[0], inputs[1])
	case kindUnion:
		return inputs[0], slices.Equal(inputs[0], inputs[1])
	case kindGroup:
		picked, typed := p.pickedTypes(inputs[0])
		weight, weightIs := p.weight.typeIn(inputs[0])
		return append(picked, valueNumber), typed && weightIs && weight == valueNumber
	}
	return inputs[0], true
}

// comparesOneType tells whether both things that are compared are there and of
// one type; left and right are the types of the rows that they are columns of.
func (p *part) comparesOneType(left, right []valueKind) bool {
	one, oneIs := p.left.typeIn(left)
	other, otherIs := p.right.typeIn(right)
	return oneIs && otherIs && one == other
}

// pickedTypes tells the types of the part's columns, and whether each is there.
func (p *part) pickedTypes(types []valueKind) ([]valueKind, bool) {
	var picked []valueKind
	for _, c := range p.columns {
		if c >= len(types) {
			return nil, false
		}
		picked = append(picked, types[c])
	}
	return picked, true
}
