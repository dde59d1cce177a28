package ripple

import (
	"strconv"
	"strings"
)

// reader goes over a text from the left. It never steps over a byte that
// cannot stand where it is, so that where it stops is the place of the fault.
type reader struct {
	text string
	at   int
}

// column reads one digit.
func (r *reader) column(c *int) bool {
	from := r.at
	if !r.several(1, '0', '9') {
		return false
	}
	*c = int(r.text[from] - '0')
	return true
}

// word reads one to most letters.
func (r *reader) word(w *string, most int) bool {
	from := r.at
	if !r.several(most, 'a', 'z') {
		return false
	}
	// A copy, for a piece of the text would keep the whole text.
	*w = strings.Clone(r.text[from:r.at])
	return true
}

// textValue reads a text.
func (r *reader) textValue(v *value) bool {
	var letters string
	isText := r.word(&letters, maxText)
	*v = textOf(letters)
	return isText
}

// numberValue reads a number.
func (r *reader) numberValue(v *value) bool {
	from := r.at
	if !r.numeral() {
		return false
	}
	n, err := strconv.ParseInt(r.text[from:r.at], 10, 64)
	*v = numberOf(n)
	return err == nil
}

// numeral reads 0, or a number that does not begin with 0.
func (r *reader) numeral() bool {
	if r.take('-') {
		return r.digits()
	}
	return r.take('0') || r.digits()
}

// digits reads one to maxDigits digits of which the first is not 0.
func (r *reader) digits() bool {
	if r.next() == '0' {
		return false
	}
	return r.several(maxDigits, '0', '9')
}

// several reads one to most bytes from low to high.
func (r *reader) several(most int, low, high byte) bool {
	from := r.at
	for r.at-from < most && low <= r.next() && r.next() <= high {
		r.at++
	}
	return r.at > from
}

// take reads one byte, if it is this one.
func (r *reader) take(this byte) bool {
	if r.next() != this {
		return false
	}
	r.at++
	return true
}

// next is the byte that is to be read. Behind the text's end it is 0: no byte
// of a query or of a batch is 0, so the two need not be told apart.
func (r *reader) next() byte {
	if r.at < len(r.text) {
		return r.text[r.at]
	}
	return 0
}

// ended tells whether nothing is left to be read.
func (r *reader) ended() bool {
	return r.at == len(r.text)
}
