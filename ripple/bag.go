package ripple

import (
	"maps"
	"slices"
	"strconv"
)

// bag is a bag, or a change of one: how many times it has each row. No row is
// there 0 times, so that a bag without rows is one that says nothing.
type bag map[row]int64

func (b bag) add(r row, times int64) {
	now := b[r] + times
	if now == 0 {
		delete(b, r)
		return
	}
	b[r] = now
}

func (b bag) addAll(change bag) {
	for r, times := range change {
		b.add(r, times)
	}
}

// rows tells how many rows there are, each as often as it is there.
func (b bag) rows() int64 {
	var n int64
	for _, times := range b {
		n += times
	}
	return n
}

// covers tells whether no row would be there less than 0 times behind a change.
func (b bag) covers(change bag) bool {
	for r, times := range change {
		if b[r]+times < 0 {
			return false
		}
	}
	return true
}

func (b bag) written() string {
	var text []byte
	for i, r := range slices.SortedFunc(maps.Keys(b), compareRows) {
		if i > 0 {
			text = append(text, ';')
		}
		text = r.appendTo(text)
		text = append(text, '*')
		text = strconv.AppendInt(text, b[r], 10)
	}
	return string(text)
}
