// Package bags: queries over small tables: see DOC.md.
package bags

import (
	"iter"

	"bags/api"
	"bags/check"
	"bags/fault"
	"bags/parse"
	"bags/tables"
)

// DB is some tables.
type DB struct {
	tables map[string]*tables.Table
}

// Result is what a query answers.
type Result struct{}

// Open reads tables (P2).
func Open(data string) (*DB, error) {
	return fault.Catch(api.ErrData, func() *DB { return &DB{tables: tables.Read(data)} })
}

// Print tells a query with all its brackets (P5).
func Print(query string) (string, error) {
	return fault.Catch(api.ErrSyntax, func() string { return parse.Query(query).Written() })
}

// Query answers a query; limits: how many rows may come out (P6 to P14).
func (d *DB) Query(query string, limits ...int) (*Result, error) {
	return fault.Catch(api.ErrType, func() *Result {
		check.Query(d.tables, parse.Query(query))
		return &Result{}
	})
}

// Columns tells the columns' names (P14).
func (r *Result) Columns() []string { return nil }

// Rows goes over the rows, in order (P14).
func (r *Result) Rows() iter.Seq[[]api.Value] { return func(func([]api.Value) bool) {} }
