// Package check asks of a query that what it names is there (P6) and that its parts go together (P7), and makes them into functions of rows.
package check

import (
	"slices"

	"bags/api"
	"bags/fault"
	"bags/plan"
	"bags/tables"
	"bags/tree"
)

// untyped is null's type, which goes with all.
const untyped tables.Type = 0

// checker is what is known while a query's parts are gone through.
type checker struct {
	tables map[string]*tables.Table
	clash  bool // something does not go together: told at the end, as what is named wrongly comes first (P1)
}

// Query checks a query over these tables.
func Query(list map[string]*tables.Table, q tree.Query) plan.Query {
	c := &checker{tables: list}
	checked, _ := c.query(q, nil)
	if c.clash {
		fault.Throw(api.ErrType, 0)
	}
	return checked
}

// must throws a fault unless what is named is there, and just once.
func must(holds bool) {
	if !holds {
		fault.Throw(api.ErrScope, 0)
	}
}

// together tells the type of two parts that must be of one.
func (c *checker) together(a, b tables.Type) tables.Type {
	if a == untyped {
		return b
	}
	c.clash = c.clash || b != untyped && a != b
	return a
}

// sideBySide tells the types of columns that must be as many as each other, each two of one type.
func (c *checker) sideBySide(left, right []tables.Type) []tables.Type {
	if len(left) != len(right) {
		c.clash = true
		return left
	}
	types := make([]tables.Type, len(left))
	for i := range left {
		types[i] = c.together(left[i], right[i])
	}
	return types
}

// query checks a query that stands at a place of the one around it (nil: none is), and tells its columns' types.
func (c *checker) query(q tree.Query, around *place) (plan.Query, []tables.Type) {
	switch q := q.(type) {
	case tree.Joined:
		left, leftTypes := c.query(q.Left, around)
		right, rightTypes := c.query(q.Right, around)
		return &plan.Joined{Left: left, Sign: q.Sign, Right: right}, c.sideBySide(leftTypes, rightTypes)
	case tree.Select:
		return c.selection(q, around)
	}
	panic("a query of no kind")
}

func (c *checker) selection(s tree.Select, around *place) (plan.Query, []tables.Type) {
	rows := &place{sources: c.sources(s.Sources), around: around}
	result := &plan.Selection{Distinct: s.Distinct, Where: c.cond(s.Where, rows), Keys: rows.keys(s.Group)}
	for _, source := range rows.sources {
		result.Sources = append(result.Sources, source.table)
	}
	at := rows
	result.Groups = makesGroups(s)
	if result.Groups {
		must(len(s.Items) > 0) // else it is *
		at = rows.grouped(result.Keys)
	}
	result.Having = c.cond(s.Having, at)
	items, types := c.items(s.Items, at)
	result.Items = items
	if result.Groups {
		result.Made = at.group.made
	}
	return result, types
}

func makesGroups(s tree.Select) bool {
	return len(s.Group) > 0 || slices.ContainsFunc(s.Items, func(i tree.Item) bool { return hasAggregate(i.Expr) })
}

func (c *checker) items(list []tree.Item, at *place) ([]plan.Expr, []tables.Type) {
	if len(list) == 0 {
		return at.all()
	}
	var exprs []plan.Expr
	var types []tables.Type
	for _, item := range list {
		e, t := c.expr(item.Expr, at)
		exprs, types = append(exprs, e), append(types, t)
	}
	return exprs, types
}
