package ripple

// view is at the end of a query's operators: it remembers what it has told.
type view struct {
	memory
	untold memory // what has come since
}

func (v *view) take(change bag) {
	v.untold.remember(change)
}

// tell tells what has changed since the last time.
func (v *view) tell() string {
	change := v.untold.held
	v.untold = memory{}
	v.remember(change)
	return change.written()
}
