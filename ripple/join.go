package ripple

// join is the operator J. What a change of one of its inputs means hangs on
// what the other has, so that each input has a side of its own.
type join struct {
	giver
	left, right side
}

func newJoin(left, right int) *join {
	j := &join{}
	j.left = side{shelves: shelves{column: left}, join: j, other: &j.right, isLeft: true}
	j.right = side{shelves: shelves{column: right}, join: j, other: &j.left}
	return j
}

// side is given the changes of one input.
type side struct {
	shelves
	join   *join
	other  *side
	isLeft bool
}

func (s *side) take(change bag) {
	joined := bag{}
	for own, times := range change {
		for other, otherTimes := range s.other.held[own.values[s.column]] {
			joined.add(s.together(own, other), times*otherTimes)
		}
	}
	s.remember(change)
	s.join.give(joined)
}

func (s *side) together(own, other row) row {
	if s.isLeft {
		return own.and(other.values[:other.width]...)
	}
	return other.and(own.values[:own.width]...)
}

// shelves is a memory in which rows are found by what they have in one column,
// so that a change meets only the rows that it goes with.
type shelves struct {
	column int
	held   map[value]bag
}

func (s *shelves) remember(change bag) {
	if s.held == nil {
		s.held = map[value]bag{}
	}
	for r, times := range change {
		at := r.values[s.column]
		if s.held[at] == nil {
			s.held[at] = bag{}
		}
		s.held[at].add(r, times)
		if len(s.held[at]) == 0 {
			delete(s.held, at)
		}
	}
}
