// Package bags: queries over small tables: see DOC.md.
package bags

import (
	"iter"
	"slices"

	"bags/api"
	"bags/check"
	"bags/fault"
	"bags/parse"
	"bags/run"
	"bags/tables"
	"bags/tell"
)

// DB is some tables.
type DB struct {
	tables map[string]*tables.Table
}

// Result is what a query answers.
type Result struct {
	columns []string
	rows    [][]api.Value // in order
}

// Open reads tables (P2).
func Open(data string) (*DB, error) {
	return fault.Catch(api.ErrData, func() *DB { return &DB{tables: tables.Read(data)} })
}

// Print tells a query with all its brackets (P5).
func Print(query string) (string, error) {
	return fault.Catch(api.ErrSyntax, func() string { return parse.Query(query).Written() })
}

// Query answers a query; limits: how many rows may come out (P6 to P14).
func (d *DB) Query(query string, limits ...int) (*Result, error) {
	return fault.Catch(api.ErrType, func() *Result {
		checked, names := check.Query(d.tables, parse.Query(query))
		return &Result{columns: names, rows: tell.Rows(run.Query(checked), limits...)}
	})
}

// Columns tells the columns' names (P14).
func (r *Result) Columns() []string { return slices.Clone(r.columns) }

// Rows goes over the rows, in order (P14).
func (r *Result) Rows() iter.Seq[[]api.Value] {
	return func(yield func([]api.Value) bool) {
		for _, row := range r.rows {
			// The caller may write into a row, which may be there again (P1).
			if !yield(slices.Clone(row)) {
				return
			}
		}
	}
}
