package ripple_test

import (
	"testing"

	"ripple/ripple"
)

// That these compile tells that the names are constants of the type Errno.
const (
	ok       ripple.Errno = ripple.OK
	errLong  ripple.Errno = ripple.ErrLong
	errForm  ripple.Errno = ripple.ErrForm
	errDeep  ripple.Errno = ripple.ErrDeep
	errMany  ripple.Errno = ripple.ErrMany
	errTable ripple.Errno = ripple.ErrTable
	errType  ripple.Errno = ripple.ErrType
	errMinus ripple.Errno = ripple.ErrMinus
	errFull  ripple.Errno = ripple.ErrFull
	errView  ripple.Errno = ripple.ErrView
)

func TestErrnoNumbers(t *testing.T) {
	for _, c := range []struct {
		name string
		e    ripple.Errno
		want int
	}{
		{"OK", ok, 0},
		{"ErrLong", errLong, 1},
		{"ErrForm", errForm, 2},
		{"ErrDeep", errDeep, 3},
		{"ErrMany", errMany, 4},
		{"ErrTable", errTable, 5},
		{"ErrType", errType, 6},
		{"ErrMinus", errMinus, 7},
		{"ErrFull", errFull, 8},
		{"ErrView", errView, 9},
	} {
		if int(c.e) != c.want {
			t.Errorf("%s is %d, want %d", c.name, int(c.e), c.want)
		}
	}
}

func TestErrnoIsAnInt(t *testing.T) {
	var e any = ripple.ErrView
	if _, isErrno := e.(ripple.Errno); !isErrno {
		t.Errorf("ErrView is of type %T, want ripple.Errno", e)
	}
	if _, isInt := e.(int); isInt {
		t.Error("Errno is int itself, want a type of its own")
	}
}
