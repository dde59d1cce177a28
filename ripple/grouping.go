package ripple

import "maps"

// grouping is the operator G. Of a group, which is the row of its columns, it
// remembers how many rows are in it.
type grouping struct {
	giver
	memory
	totals  memory // of each group the number that is told of it
	columns []int
	weight  operand
}

func (g *grouping) take(change bag) {
	rows, totals := bag{}, bag{}
	for r, times := range change {
		group := r.pick(g.columns)
		rows.add(group, times)
		totals.add(group, times*g.weight.in(r).number)
	}
	// Each of the two may change where the other does not.
	changed := maps.Clone(rows)
	maps.Copy(changed, totals)

	told := bag{}
	g.addGroups(told, changed, -1)
	g.remember(rows)
	g.totals.remember(totals)
	g.addGroups(told, changed, 1)
	g.give(told)
}

// addGroups adds what is told of these groups as they are now. Whether a group
// is there hangs on its rows alone, for a sum may be 0.
func (g *grouping) addGroups(to bag, groups bag, times int64) {
	for group := range groups {
		if g.held[group] > 0 {
			to.add(group.and(numberOf(g.totals.held[group])), times)
		}
	}
}
