package ripple

import "maps"

// taker is whatever is given changes. It neither changes nor keeps the bag.
type taker interface {
	take(change bag)
}

// deliver gives a change, unless there is nothing in it.
func deliver(change bag, to taker) {
	if len(change) > 0 {
		to.take(change)
	}
}

// giver is what all operators share: whom they give their changes.
type giver struct {
	takers []taker
}

func (g *giver) giveTo(to taker) {
	g.takers = append(g.takers, to)
}

func (g *giver) give(change bag) {
	for _, to := range g.takers {
		deliver(change, to)
	}
}

// memory is what those share that must remember what has come so far.
type memory struct {
	held bag
}

func (m *memory) remember(change bag) {
	if m.held == nil {
		m.held = maps.Clone(change)
		return
	}
	m.held.addAll(change)
}

// operator is a part of a query at work: it is given changes and gives changes.
type operator interface {
	taker
	giveTo(to taker)
}

// selection is the operator S.
type selection struct {
	giver
	compare     comparison
	left, right operand
}

func (s *selection) take(change bag) {
	chosen := bag{}
	for r, times := range change {
		if s.compare.holds(s.left.in(r), s.right.in(r)) {
			chosen.add(r, times)
		}
	}
	s.give(chosen)
}

// picking is the operator P.
type picking struct {
	giver
	columns []int
}

func (p *picking) take(change bag) {
	picked := bag{}
	for r, times := range change {
		picked.add(r.pick(p.columns), times)
	}
	p.give(picked)
}

// union is the operator U. From which of its two inputs a change comes is
// all one to it.
type union struct {
	giver
}

func (u *union) take(change bag) {
	u.give(change)
}
