package ripple

import "slices"

// table is the operator that a table's name stands for: it gives its changes
// to all parts of all views that name it.
type table struct {
	giver
	memory
	name  string
	types []valueKind
}

func (t *table) take(change bag) {
	t.remember(change)
	t.give(change)
}

// readName reads a text as a table's name, and tells whether it is one.
func readName(text string) (string, bool) {
	if len(text) > maxName {
		return "", false
	}
	var name string
	r := reader{text: text}
	isName := r.word(&name, maxName) && r.ended()
	return name, isName
}

// readTypes reads a text as a table's types, and tells whether it is such.
func readTypes(text string) ([]valueKind, bool) {
	if len(text) < 1 || len(text) > maxWidth {
		return nil, false
	}
	types := make([]valueKind, len(text))
	for i := range len(text) {
		switch text[i] {
		case 'i':
			types[i] = valueNumber
		case 't':
			types[i] = valueText
		default:
			return nil, false
		}
	}
	return types, true
}

// tables are the tables of one session.
type tables []*table

// find tells the place of the table of this name, or -1.
func (ts tables) find(name string) int {
	return slices.IndexFunc(ts, func(t *table) bool { return t.name == name })
}

// haveAll tells whether each table that a query names is there.
func (ts tables) haveAll(query *part) bool {
	if query.kind == kindTable {
		return ts.find(query.table) >= 0
	}
	for _, input := range query.inputs {
		if !ts.haveAll(input) {
			return false
		}
	}
	return true
}

// typesOf tells the types of a query whose tables are there, and whether it is
// typed.
func (ts tables) typesOf(query *part) ([]valueKind, bool) {
	if query.kind == kindTable {
		return ts[ts.find(query.table)].types, true
	}
	var inputs [][]valueKind
	for _, input := range query.inputs {
		types, typed := ts.typesOf(input)
		if !typed {
			return nil, false
		}
		inputs = append(inputs, types)
	}
	types, typed := query.types(inputs)
	return types, typed && len(types) <= maxColumns
}

// lead makes a typed query's operators and leads changes through them from the
// tables to the taker; first of all, what the tables have already.
func (ts tables) lead(query *part, to taker) {
	if query.kind == kindTable {
		t := ts[ts.find(query.table)]
		t.giveTo(to)
		deliver(t.held, to)
		return
	}
	takers := query.lead(to)
	for i, input := range query.inputs {
		ts.lead(input, takers[i])
	}
}

// fit tells whether each order's table is there and has such rows.
func (ts tables) fit(orders []order) Errno {
	for _, o := range orders {
		if ts.find(o.table) < 0 {
			return ErrTable
		}
	}
	for _, o := range orders {
		if !areOf(o.values, ts[ts.find(o.table)].types) {
			return ErrType
		}
	}
	return OK
}

// changes tells what orders that fit change in each table, all together.
func (ts tables) changes(orders []order) []bag {
	changes := make([]bag, len(ts))
	for i := range changes {
		changes[i] = bag{}
	}
	for _, o := range orders {
		changes[ts.find(o.table)].add(row{}.and(o.values...), o.times)
	}
	return changes
}

// bear tells whether the tables may change so.
func (ts tables) bear(changes []bag) Errno {
	var rows int64
	for i, t := range ts {
		if !t.held.covers(changes[i]) {
			return ErrMinus
		}
		rows += t.held.rows() + changes[i].rows()
	}
	if rows > maxRows {
		return ErrFull
	}
	return OK
}
