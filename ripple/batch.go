package ripple

// order is a change as a batch writes it: a row that comes to a table, or goes.
type order struct {
	table  string
	values []value // of the row, as many as stand there
	times  int64
}

// batch reads the whole text as one batch, and tells whether it is one.
func (r *reader) batch() ([]order, bool) {
	var orders []order
	if r.ended() {
		return orders, true
	}
orders:
	for {
		var o order
		if !r.sign(&o.times) || !r.word(&o.table, maxName) || !r.take('(') {
			return nil, false
		}
		for {
			var v value
			if !r.value(&v) {
				return nil, false
			}
			o.values = append(o.values, v)
			if r.take(',') {
				continue
			}
			if !r.take(')') {
				return nil, false
			}
			orders = append(orders, o)
			if r.ended() {
				break orders
			}
			if !r.take(';') {
				return nil, false
			}
			continue orders
		}
	}
	return orders, true
}

// sign reads whether a row comes or goes.
func (r *reader) sign(times *int64) bool {
	if r.take('+') {
		*times = 1
		return true
	}
	*times = -1
	return r.take('-')
}

func (r *reader) value(v *value) bool {
	return r.textValue(v) || r.numberValue(v)
}
