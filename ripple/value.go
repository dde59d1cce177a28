package ripple

import (
	"cmp"
	"slices"
	"strconv"
	"strings"
)

// valueKind tells numbers from texts; it is also the type of a column.
type valueKind int

const (
	valueNumber valueKind = iota
	valueText
)

// value is a number or a text. What its kind does not use is zero.
type value struct {
	kind   valueKind
	number int64
	text   string
}

func compareValues(a, b value) int {
	return cmp.Or(cmp.Compare(a.kind, b.kind), cmp.Compare(a.number, b.number), strings.Compare(a.text, b.text))
}

func (v value) written() string {
	if v.kind == valueText {
		return v.text
	}
	return strconv.FormatInt(v.number, 10)
}

// row is never changed once it is made, so that bags may share it.
type row []value

func compareRows(a, b row) int {
	return slices.CompareFunc(a, b, compareValues)
}

func (r row) written() string {
	var text strings.Builder
	for i, v := range r {
		if i == 0 {
			text.WriteByte('(')
		} else {
			text.WriteByte(',')
		}
		text.WriteString(v.written())
	}
	text.WriteByte(')')
	return text.String()
}

// is tells whether the row has just these types.
func (r row) is(types []valueKind) bool {
	return slices.EqualFunc(r, types, func(v value, t valueKind) bool { return v.kind == t })
}
