package ripple

const (
	maxName    = 4   // letters of a table's name
	maxText    = 4   // letters of a text
	maxDigits  = 4   // digits of a number
	maxColumns = 6   // columns that are picked, or grouped by
	maxQuery   = 120 // bytes of a query
	maxDepth   = 6   // brackets within one another
	maxJoins   = 2   // joins of a query
)
