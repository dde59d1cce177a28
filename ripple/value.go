package ripple

import (
	"bytes"
	"cmp"
	"slices"
	"strconv"
)

// valueKind tells numbers from texts; it is also the type of a column. It is
// small, for there may be many values.
type valueKind int32

const (
	valueNumber valueKind = iota
	valueText
)

// value is a number or a text. What its kind does not use is zero, so that
// values may be held against each other by ==.
type value struct {
	kind   valueKind
	text   [maxText]byte // zero behind the letters, so that bytes are compared as texts are
	number int64         // rows, joins and queries are limited, so that no sum comes near its bounds
}

func numberOf(n int64) value {
	return value{kind: valueNumber, number: n}
}

// textOf gives the text of at most maxText letters.
func textOf(letters string) value {
	v := value{kind: valueText}
	copy(v.text[:], letters)
	return v
}

func compareValues(a, b value) int {
	if a.kind == valueText {
		return bytes.Compare(a.text[:], b.text[:])
	}
	return cmp.Compare(a.number, b.number)
}

func (v value) appendTo(text []byte) []byte {
	if v.kind == valueText {
		return append(text, bytes.TrimRight(v.text[:], "\x00")...)
	}
	return strconv.AppendInt(text, v.number, 10)
}

// areOf tells whether values have just these types.
func areOf(values []value, types []valueKind) bool {
	return slices.EqualFunc(values, types, func(v value, t valueKind) bool { return v.kind == t })
}
