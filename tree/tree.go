// Package tree has the parts of a query. Each writes itself with all its brackets (P5).
package tree

import "bags/api"

// Part is a part of a query.
type Part interface {
	Written() string
}

// Query is a Select or a Joined.
type Query interface {
	Part
	isQuery()
}

// Cond is a Logic, Not, Compare, Versus, In, IsNull or Exists.
type Cond interface {
	Part
	isCond()
}

// Expr is an Arith, Negated, Literal, Column or Aggregate.
type Expr interface {
	Part
	isExpr()
}

type query struct{}

func (query) isQuery() {}

type cond struct{}

func (cond) isCond() {}

type expr struct{}

func (expr) isExpr() {}

// Pair is what the parts with two sides and a sign between have in common.
type Pair[P Part] struct {
	Left  P
	Sign  string
	Right P
}

// Alias is what the parts that may be given a name have in common.
type Alias struct {
	As string // "": none is given
}

// Within is what the conditions that ask a query have in common.
type Within struct {
	cond
	Query Query
}

// Joined is two queries put together: the sign says how, with all behind it or not.
type Joined struct {
	query
	Pair[Query]
}

// Select is a selection.
type Select struct {
	query
	Distinct bool
	Items    []Item // none: all columns (*)
	Sources  []Source
	Where    Cond     // nil: none
	Group    []Column // none: no group by
	Having   Cond     // nil: none
}

// Item is what is selected.
type Item struct {
	Expr Expr
	Alias
}

// Source is a table that is selected from.
type Source struct {
	Table string
	Alias
}

// Logic is two conditions with and or or between.
type Logic struct {
	cond
	Pair[Cond]
}

// Not is the negation of a condition.
type Not struct {
	cond
	Of Cond
}

// Compare is a comparison of two expressions.
type Compare struct {
	cond
	Pair[Expr]
}

// Versus is a comparison of an expression with any or all rows of a query.
type Versus struct {
	Within
	Left  Expr
	Sign  string
	Which string // any or all
}

// In asks if a query's rows have a value.
type In struct {
	Within
	Left Expr
	Not  bool
}

// Exists asks if a query has rows.
type Exists struct {
	Within
}

// IsNull asks if there is no value.
type IsNull struct {
	cond
	Left Expr
	Not  bool
}

// Arith is a sum or a product.
type Arith struct {
	expr
	Pair[Expr]
}

// Negated is the negation of a number.
type Negated struct {
	expr
	Of Expr
}

// Literal is a value that is written out.
type Literal struct {
	expr
	Value api.Value
}

// Column is a column, with its source's name or not.
type Column struct {
	expr
	Source string // "": none is named
	Name   string
}

// Aggregate is a count, sum, min or max of a group.
type Aggregate struct {
	expr
	Name string
	Of   Expr // nil: the rows themselves, count(*)
}
