// Package check asks of a query that what it names is there (P6) and that its parts go together (P7), and makes them into functions of rows.
package check

import (
	"cmp"
	"slices"

	"bags/api"
	"bags/fault"
	"bags/plan"
	"bags/tables"
	"bags/tree"
)

// untyped is null's type, which goes with all.
const untyped tables.Type = 0

// checker is what is known while a query's parts are gone through.
type checker struct {
	tables map[string]*tables.Table
	clash  bool // something does not go together: told at the end, as what is named wrongly comes first (P1)
}

// Query checks a query over these tables, and tells its columns' names (P14).
func Query(list map[string]*tables.Table, q tree.Query) (plan.Query, []string) {
	c := &checker{tables: list}
	checked, columns := c.query(q, nil)
	if c.clash {
		fault.Throw(api.ErrType, 0)
	}
	var names []string
	for _, column := range columns {
		names = append(names, column.Name)
	}
	return checked, names
}

// must throws a fault unless what is named is there, and just once.
func must(holds bool) {
	if !holds {
		fault.Throw(api.ErrScope, 0)
	}
}

// together tells the type of two parts that must be of one.
func (c *checker) together(a, b tables.Type) tables.Type {
	if a == untyped {
		return b
	}
	c.clash = c.clash || b != untyped && a != b
	return a
}

// sideBySide tells the columns of two queries that must have as many as each other, each two of one type: the names are the left's (P12).
func (c *checker) sideBySide(left, right []tables.Column) []tables.Column {
	if len(left) != len(right) {
		c.clash = true
		return left
	}
	columns := make([]tables.Column, len(left))
	for i := range left {
		columns[i] = tables.Column{Name: left[i].Name, Type: c.together(left[i].Type, right[i].Type)}
	}
	return columns
}

// query checks a query that stands within another (nil: in none), and tells its columns.
func (c *checker) query(q tree.Query, in *within) (plan.Query, []tables.Column) {
	switch q := q.(type) {
	case tree.Joined:
		left, leftColumns := c.query(q.Left, in)
		right, rightColumns := c.query(q.Right, in)
		return &plan.Joined{Left: left, Sign: q.Sign, Right: right}, c.sideBySide(leftColumns, rightColumns)
	case tree.Select:
		return c.selection(q, in)
	}
	panic("a query of no kind")
}

func (c *checker) selection(s tree.Select, in *within) (plan.Query, []tables.Column) {
	rows := &place{sources: c.sources(s.Sources), in: in}
	result := &plan.Selection{Distinct: s.Distinct, Where: c.cond(s.Where, rows), Keys: rows.keys(s.Group)}
	for _, source := range rows.sources {
		result.Sources = append(result.Sources, source.table)
	}
	at := rows
	result.Groups = makesGroups(s)
	if result.Groups {
		must(len(s.Items) > 0) // else it is *
		at = rows.grouped(result.Keys)
	}
	result.Having = c.cond(s.Having, at)
	items, columns := c.items(s.Items, at)
	result.Items = items
	if result.Groups {
		result.Made = at.group.made
	}
	return result, columns
}

func makesGroups(s tree.Select) bool {
	return len(s.Group) > 0 || slices.ContainsFunc(s.Items, func(i tree.Item) bool { return hasAggregate(i.Expr) })
}

func (c *checker) items(list []tree.Item, at *place) ([]plan.Expr, []tables.Column) {
	if len(list) == 0 {
		return at.all()
	}
	var exprs []plan.Expr
	var columns []tables.Column
	for _, item := range list {
		e, t := c.expr(item.Expr, at)
		exprs, columns = append(exprs, e), append(columns, tables.Column{Name: shownAs(item), Type: t})
	}
	return exprs, columns
}

// shownAs is the name of the column that an item makes.
func shownAs(item tree.Item) string {
	name := "?"
	if column, is := item.Expr.(tree.Column); is {
		name = column.Name
	}
	return cmp.Or(item.As, name)
}
