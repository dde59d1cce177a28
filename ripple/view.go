package ripple

// view is at the end of a query's operators: it remembers what they give.
type view struct {
	memory
	untold memory // what has come since the view was last told of
}

func (v *view) take(change bag) {
	v.remember(change)
	v.untold.remember(change)
}

// tell tells what has changed since the last time.
func (v *view) tell() string {
	told := v.untold.held.written()
	v.untold = memory{}
	return told
}
