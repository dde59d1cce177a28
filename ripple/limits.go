package ripple

const (
	maxName    = 4   // letters of a table's name
	maxText    = 4   // letters of a text
	maxDigits  = 4   // digits of a number
	maxColumns = 6   // columns of a query, also those that are picked or grouped by
	maxWidth   = 4   // columns of a table
	maxTables  = 4   // tables of a session
	maxViews   = 6   // views of a session
	maxQuery   = 120 // bytes of a query
	maxDepth   = 6   // brackets within one another
	maxJoins   = 2   // joins of a query
	maxBatch   = 300 // bytes of a batch
	maxRows    = 60  // rows of all tables together
)
