package ripple

// kind tells the parts of a query from one another.
type kind int

const (
	kindNone kind = iota // no part begins so
	kindTable
	kindSelect
	kindPick
	kindJoin
	kindUnion
	kindDistinct
	kindGroup
)

// kindOf tells by its first byte which part begins.
func kindOf(first byte) kind {
	switch first {
	case 'S':
		return kindSelect
	case 'P':
		return kindPick
	case 'J':
		return kindJoin
	case 'U':
		return kindUnion
	case 'D':
		return kindDistinct
	case 'G':
		return kindGroup
	}
	if 'a' <= first && first <= 'z' {
		return kindTable
	}
	return kindNone
}

// inputs tells how many queries a part has in its brackets.
func (k kind) inputs() int {
	switch k {
	case kindNone, kindTable:
		return 0
	case kindJoin, kindUnion:
		return 2
	}
	return 1
}
