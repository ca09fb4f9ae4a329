// Package plan has what a query is once it is checked: functions of the row, or group, at hand, that know places and no names.
package plan

import (
	"slices"
	"sync"

	"bags/api"
	"bags/tables"
)

// Entry is a row, or a group, of a selection.
type Entry struct {
	Row  []api.Value // the values of all sources side by side; of a group, those of one of its rows
	Made []api.Value // of a group: what Selection.Made says, worked out
}

// Frame is the row, or the group, of which something is worked out, and what it is worked out with.
type Frame struct {
	Entry
	Around *Frame // that of the query around; nil: none is
	Runner Runner
	Spread bool // it is one goroutine's among several: were queries within spread again, goroutines would grow with the depth
}

// Runner answers a query within a condition, for the frame of which the condition is looked at.
type Runner interface {
	Answer(w *Within, around *Frame) (Answer, api.Errno)
}

// Answer is what a condition asks of a query's rows.
type Answer struct {
	Some   bool        // a row comes out
	Values []api.Value // of a query of one column: its values, each once
}

// Within is a query within a condition.
type Within struct {
	Query Query
	Needs []Expr // the columns of the queries around that it names, of the frame around: its answer hangs on these values alone
}

// Part works something out: what it is, or the least error that it met.
type Part[T any] func(f *Frame) (T, api.Errno)

// Expr works out a value.
type Expr = Part[api.Value]

// Cond works out how true something is.
type Cond = Part[Truth]

// Query is a *Selection or a *Joined.
type Query interface{ isQuery() }

type query struct{}

func (query) isQuery() {}

// Selection is a selection.
type Selection struct {
	query
	Distinct bool
	Sources  []*tables.Table
	Where    Cond
	Groups   bool        // rows are put together by Keys; without these all are one group
	Keys     []int       // where in a row the columns behind group by stand
	Made     []Aggregate // what is worked out of each group ahead of Having and Items
	Having   Cond
	Items    []Expr

	once    sync.Once
	entries []Entry
}

// Entries puts the sources' rows side by side in all ways: once, as a query within is answered for row by row of the one around.
func (s *Selection) Entries() []Entry {
	s.once.Do(func() {
		rows := [][]api.Value{nil}
		for _, t := range s.Sources {
			rows = sideBySide(rows, t.Rows)
		}
		for _, row := range rows {
			s.entries = append(s.entries, Entry{Row: row})
		}
	})
	return s.entries
}

func sideBySide(left, right [][]api.Value) [][]api.Value {
	var rows [][]api.Value
	for _, l := range left {
		for _, r := range right {
			rows = append(rows, slices.Concat(l, r))
		}
	}
	return rows
}

// Aggregate is a count, sum, min or max of what Of is, for the rows of a group.
type Aggregate struct {
	Name string
	Of   Expr
}

// Joined is two queries put together: the sign says how, with all behind it or not.
type Joined struct {
	query
	Left  Query
	Sign  string
	Right Query
}

// Least tells the least of some errors, OK being none.
func Least(list ...api.Errno) api.Errno {
	least := api.OK
	for _, met := range list {
		if least == api.OK || met != api.OK && met < least {
			least = met
		}
	}
	return least
}

// both works out two parts, the second whatever the first met: all is looked at always (P9).
func both[T any](f *Frame, left, right Part[T]) (T, T, api.Errno) {
	l, met := left(f)
	r, also := right(f)
	return l, r, Least(met, also)
}
