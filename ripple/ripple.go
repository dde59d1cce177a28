// Package ripple: views that are kept as the tables change: see DOC.md.
package ripple

import "strings"

// Errno is what a call answers: OK or the reason for a refusal.
type Errno int

const (
	OK       Errno = iota
	ErrLong        // a text above its bound
	ErrForm        // no query, no batch, no name, no types
	ErrDeep        // too many brackets within one another
	ErrMany        // too many joins, tables or views
	ErrTable       // a table that there is not, or is already
	ErrType        // what does not go together
	ErrMinus       // a row that would be there less than no times
	ErrFull        // too many rows
	ErrView        // no such view
)

// Session keeps tables and views.
type Session struct{}

// Check tells whether a text is a query (P3).
func Check(query string) (Errno, int) {
	if len(query) > maxQuery {
		return ErrLong, 0
	}
	r := reader{text: query}
	if e := r.query(); e != OK {
		return e, r.at
	}
	// Names and texts have small letters only, so that in a query each J is a join.
	if strings.Count(query, "J") > maxJoins {
		return ErrMany, 0
	}
	return OK, 0
}

// New makes a session (P4).
func New() *Session { return &Session{} }

// Table makes a table (P4).
func (s *Session) Table(name string, types string) Errno { return OK }

// View makes a view (P5).
func (s *Session) View(query string) (int, string, Errno) { return 0, "", OK }

// Feed changes the tables (P6).
func (s *Session) Feed(batch string) (string, Errno) { return "", OK }

// Show tells a view's bag (P7).
func (s *Session) Show(view int) (string, Errno) { return "", OK }
