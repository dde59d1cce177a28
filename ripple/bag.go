package ripple

import (
	"maps"
	"slices"
	"strconv"
	"strings"
)

// entry is a row and how many times it is there.
type entry struct {
	row   row
	times int64
}

// bag is a bag, or a change of one, by its rows as they are written. No entry
// is there 0 times, so that a bag without entries is one that says nothing.
type bag map[string]entry

func (b bag) add(r row, times int64) {
	key := r.written()
	now := b[key].times + times
	if now == 0 {
		delete(b, key)
		return
	}
	b[key] = entry{r, now}
}

func (b bag) addAll(change bag) {
	for _, e := range change {
		b.add(e.row, e.times)
	}
}

// rows tells how many rows there are, each as often as it is there.
func (b bag) rows() int64 {
	var n int64
	for _, e := range b {
		n += e.times
	}
	return n
}

// covers tells whether no row would be there less than 0 times behind a change.
func (b bag) covers(change bag) bool {
	for key, e := range change {
		if b[key].times+e.times < 0 {
			return false
		}
	}
	return true
}

func (b bag) written() string {
	entries := slices.SortedFunc(maps.Values(b), func(x, y entry) int { return compareRows(x.row, y.row) })
	var text strings.Builder
	for i, e := range entries {
		if i > 0 {
			text.WriteByte(';')
		}
		text.WriteString(e.row.written())
		text.WriteByte('*')
		text.WriteString(strconv.FormatInt(e.times, 10))
	}
	return text.String()
}
