// Package quarry: a column store in which everybody sees their own rows: see DOC.md.
package quarry

// Errno is what a call answers: OK or the reason for a refusal.
type Errno int

const (
	OK        Errno = iota
	ErrLong         // a command above its bound
	ErrText         // no command, no packed column
	ErrDeep         // an expression nested too deep
	ErrDenied       // for admin alone
	ErrName         // no such table, column or grant
	ErrTwice        // a name that stands there already
	ErrType         // a value or column of another kind
	ErrFull         // no room
	ErrMath         // beyond 64 bits, or by 0
	ErrBudget       // too many rows
)

// Kind is what a column holds.
type Kind int

const (
	Int Kind = iota
	Str
	Bool
)

var kindNames = [...]string{Int: "int", Str: "str", Bool: "bool"}

// Packing is how a segment's column is laid.
type Packing int

const (
	Plain Packing = iota
	Runs
	Dict
	Bits
)

const (
	maxText    = 300 // bytes of a command
	maxLetters = 8   // of a word
	maxDigits  = 19  // of a number
	maxString  = 12  // bytes of a string
	maxDepth   = 8   // of an expression
	maxTables  = 4
	maxColumns = 5
	maxGrants  = 8
	maxRows    = 64   // rows of a table, cells of a packed column
	maxSegment = 16   // rows of a segment
	maxWidth   = 16   // rows of a batch
	maxBudget  = 4096 // rows that a query may make
)

// Cell is a value.
type Cell struct {
	Null bool
	N    int
	S    string
}

// Options is how a store is laid out, and its budget.
type Options struct {
	Segment int     // rows of a segment
	Packing Packing // of the segments' columns
	Width   int     // rows of a batch
	Prune   bool    // skip segments where that cannot be told
	Push    bool    // work on conditions as early as that cannot be told
	Budget  int
}

// Store keeps tables and grants. Make it by New.
type Store struct {
	options Options
	tables  map[string]*table
	grants  map[grantKey]granted
	touched int // segments that the last query answered OK has read
}

// New makes a store (P1).
func New(o Options) *Store {
	return &Store{
		options: withinBounds(o),
		tables:  map[string]*table{},
		grants:  map[grantKey]granted{},
	}
}

func withinBounds(o Options) Options {
	o.Segment = min(max(o.Segment, 1), maxSegment)
	o.Width = min(max(o.Width, 1), maxWidth)
	o.Budget = min(max(o.Budget, 0), maxBudget)
	if !isPacking(o.Packing) {
		o.Packing = Plain
	}
	return o
}

// Do carries out a user's command (P5 to P13).
func (s *Store) Do(user string, command string) (string, Errno, int) {
	if len(command) > maxText {
		return "", ErrLong, 0
	}
	parsed, wrong := parse(command)
	if wrong.is() {
		return "", wrong.errno, wrong.place
	}
	text, wrong := s.made().carryOut(user, parsed)
	return text, wrong.errno, wrong.place
}

// made answers the store as New makes it: one that was not made by New has no
// maps, and its options are not within their bounds.
func (s *Store) made() *Store {
	if s == nil {
		return New(Options{})
	}
	if s.tables == nil {
		*s = *New(s.options)
	}
	return s
}

func (s *Store) carryOut(user string, parsed command) (string, fault) {
	switch c := parsed.(type) {
	case query:
		return c.answer(s, user)
	case change:
		if user != admin {
			return "", fault{ErrDenied, 0}
		}
		return "", c.apply(s)
	}
	return "", fault{}
}

// Touched tells how many segments the last query that was answered OK read (P14).
func (s *Store) Touched() int {
	if s == nil {
		return 0
	}
	return s.touched
}
