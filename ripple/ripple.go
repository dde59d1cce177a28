// Package ripple: views that are kept as the tables change: see DOC.md.
package ripple

import "strings"

// Errno is what a call answers: OK or the reason for a refusal.
type Errno int

const (
	OK       Errno = iota
	ErrLong        // a text above its bound
	ErrForm        // no query, no batch, no name, no types
	ErrDeep        // too many brackets within one another
	ErrMany        // too many joins, tables or views
	ErrTable       // a table that there is not, or is already
	ErrType        // what does not go together
	ErrMinus       // a row that would be there less than no times
	ErrFull        // too many rows
	ErrView        // no such view
)

// Session keeps tables and views.
type Session struct {
	tables tables
	views  []*view
}

// Check tells whether a text is a query (P3).
func Check(query string) (Errno, int) {
	_, e, place := readQuery(query)
	return e, place
}

// New makes a session (P4).
func New() *Session { return &Session{} }

// Table makes a table (P4).
func (s *Session) Table(name string, types string) Errno {
	tableName, isName := readName(name)
	columns, areTypes := readTypes(types)
	switch {
	case !isName || !areTypes:
		return ErrForm
	case len(s.tables) == maxTables:
		return ErrMany
	case s.tables.find(tableName) >= 0:
		return ErrTable
	}
	s.tables = append(s.tables, &table{name: tableName, types: columns})
	return OK
}

// View makes a view (P5).
func (s *Session) View(query string) (int, string, Errno) {
	parts, e, _ := readQuery(query)
	switch {
	case e != OK:
		return 0, "", e
	case len(s.views) == maxViews:
		return 0, "", ErrMany
	case !s.tables.haveAll(parts):
		return 0, "", ErrTable
	}
	if _, typed := s.tables.typesOf(parts); !typed {
		return 0, "", ErrType
	}
	v := &view{}
	s.tables.lead(parts, v)
	s.views = append(s.views, v)
	return len(s.views) - 1, v.tell(), OK
}

// Feed changes the tables (P6).
func (s *Session) Feed(batch string) (string, Errno) {
	if len(batch) > maxBatch {
		return "", ErrLong
	}
	r := reader{text: batch}
	orders, isBatch := r.batch()
	if !isBatch {
		return "", ErrForm
	}
	if e := s.tables.fit(orders); e != OK {
		return "", e
	}
	changes := s.tables.changes(orders)
	if e := s.tables.bear(changes); e != OK {
		return "", e
	}
	for i, t := range s.tables {
		deliver(changes[i], t)
	}
	return s.tell(), OK
}

// tell tells what has changed in each view.
func (s *Session) tell() string {
	var told strings.Builder
	for i, v := range s.views {
		if i > 0 {
			told.WriteByte('|')
		}
		told.WriteString(v.tell())
	}
	return told.String()
}

// Show tells a view's bag (P7).
func (s *Session) Show(view int) (string, Errno) {
	if view < 0 || view >= len(s.views) {
		return "", ErrView
	}
	return s.views[view].held.written(), OK
}
