package ripple

// hasColumns tells whether rows of these types have each of these columns.
func hasColumns(types []valueKind, columns []int) bool {
	for _, c := range columns {
		if c >= len(types) {
			return false
		}
	}
	return true
}

// pick gives these columns of a row, or of its types, in this order.
func pick[T any](from []T, columns []int) []T {
	picked := make([]T, len(columns))
	for i, c := range columns {
		picked[i] = from[c]
	}
	return picked
}
