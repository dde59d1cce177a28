package ripple

// comparison tells in which way two values are compared.
type comparison int

const (
	compareLower comparison = iota
	compareEqual
	compareUnequal
)

// comparisonBytes has for each comparison, in their order, how it is written.
const comparisonBytes = "<=!"

func (c comparison) holds(a, b value) bool {
	order := compareValues(a, b)
	switch c {
	case compareLower:
		return order < 0
	case compareEqual:
		return order == 0
	}
	return order != 0
}

// operand is one of two things that are compared: a column, or a value that
// stands in the query.
type operand struct {
	isColumn bool
	column   int
	value    value
}

// in tells what the operand is in a row.
func (o operand) in(r row) value {
	if o.isColumn {
		return r.values[o.column]
	}
	return o.value
}

// typeIn tells the operand's type in rows of these types, and whether it has one.
func (o operand) typeIn(types []valueKind) (valueKind, bool) {
	if !o.isColumn {
		return o.value.kind, true
	}
	if o.column >= len(types) {
		return 0, false
	}
	return types[o.column], true
}
