package ripple

// distinct is the operator D.
type distinct struct {
	giver
	memory
}

func (d *distinct) take(change bag) {
	once := bag{}
	for r, times := range change {
		switch d.held[r] {
		case 0:
			once.add(r, 1)
		case -times:
			once.add(r, -1)
		}
	}
	d.remember(change)
	d.give(once)
}
