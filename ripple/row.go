package ripple

// row has its values in an array and is zero behind them, so that a row may be
// the key of a map.
type row struct {
	width  int
	values [maxColumns]value
}

// and gives the row with these values behind its own.
func (r row) and(values ...value) row {
	r.width += copy(r.values[r.width:], values)
	return r
}

// pick gives the row of these columns in this order.
func (r row) pick(columns []int) row {
	var picked row
	for _, c := range columns {
		picked = picked.and(r.values[c])
	}
	return picked
}

// compareRows compares rows of the same types.
func compareRows(a, b row) int {
	for i := range a.width {
		if order := compareValues(a.values[i], b.values[i]); order != 0 {
			return order
		}
	}
	return 0
}

func (r row) appendTo(text []byte) []byte {
	text = append(text, '(')
	for i := range r.width {
		if i > 0 {
			text = append(text, ',')
		}
		text = r.values[i].appendTo(text)
	}
	return append(text, ')')
}
