package check

import (
	"bags/api"
	"bags/plan"
	"bags/tables"
	"bags/tree"
)

// expr checks an expression, and tells its type.
func (c *checker) expr(e tree.Expr, at *place) (plan.Expr, tables.Type) {
	switch e := e.(type) {
	case tree.Literal:
		return plan.Literal(e.Value), typeOf(e.Value)
	case tree.Column:
		out, found := at.look(e)
		return plan.Column(out, found.at), found.kind
	case tree.Negated:
		return plan.Negated(c.number(e.Of, at)), tables.Int
	case tree.Arith:
		return plan.Arith(e.Sign, c.number(e.Left, at), c.number(e.Right, at)), tables.Int
	case tree.Aggregate:
		return c.aggregate(e, at)
	}
	panic("an expression of no kind")
}

func typeOf(v api.Value) tables.Type {
	switch v.(type) {
	case api.Int:
		return tables.Int
	case api.Text:
		return tables.Text
	}
	return untyped
}

// number checks an expression that must be an int.
func (c *checker) number(e tree.Expr, at *place) plan.Expr {
	made, kind := c.expr(e, at)
	c.together(kind, tables.Int)
	return made
}

// aggregate checks what is counted, summed and so on where rows are at hand, not groups: so none stands within another.
func (c *checker) aggregate(a tree.Aggregate, at *place) (plan.Expr, tables.Type) {
	must(at.group != nil)
	of, kind := c.counted(a.Of, at.group.rows)
	switch a.Name {
	case "count":
		kind = tables.Int
	case "sum":
		c.together(kind, tables.Int)
		kind = tables.Int
	}
	at.group.made = append(at.group.made, plan.Aggregate{Name: a.Name, Of: of})
	return plan.Made(len(at.group.made) - 1), kind
}

// counted is what stands in the brackets; for the rows themselves (*) stands what is never null.
func (c *checker) counted(of tree.Expr, rows *place) (plan.Expr, tables.Type) {
	if of == nil {
		return plan.Literal(api.Int(1)), tables.Int
	}
	return c.expr(of, rows)
}

// hasAggregate asks if a count, sum, min or max stands in an expression.
func hasAggregate(e tree.Expr) bool {
	switch e := e.(type) {
	case tree.Negated:
		return hasAggregate(e.Of)
	case tree.Arith:
		return hasAggregate(e.Left) || hasAggregate(e.Right)
	case tree.Aggregate:
		return true
	}
	return false
}
