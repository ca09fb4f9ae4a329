package check

import (
	"bags/plan"
	"bags/tables"
	"bags/tree"
)

// cond checks a condition; where none stands (nil), all is let through.
func (c *checker) cond(part tree.Cond, at *place) plan.Cond {
	switch part := part.(type) {
	case nil:
		return plan.Always()
	case tree.Logic:
		return plan.Logic(part.Sign, c.cond(part.Left, at), c.cond(part.Right, at))
	case tree.Not:
		return plan.Not(c.cond(part.Of, at))
	case tree.Compare:
		return c.compare(part, at)
	case tree.IsNull:
		of, _ := c.expr(part.Left, at)
		return negatedIf(part.Not, plan.IsNull(of))
	case tree.Exists:
		q, _ := c.within(part.Query, at)
		return plan.Exists(q)
	case tree.In:
		return negatedIf(part.Not, c.versus(part.Left, "=", "any", part.Query, at))
	case tree.Versus:
		return c.versus(part.Left, part.Sign, part.Which, part.Query, at)
	}
	panic("a condition of no kind")
}

func negatedIf(not bool, of plan.Cond) plan.Cond {
	if not {
		return plan.Not(of)
	}
	return of
}

func (c *checker) compare(part tree.Compare, at *place) plan.Cond {
	left, leftType := c.expr(part.Left, at)
	right, rightType := c.expr(part.Right, at)
	c.together(leftType, rightType)
	return plan.Compare(part.Sign, left, right)
}

// versus checks an expression and the query that it is held against, which must have one column, of its type.
func (c *checker) versus(left tree.Expr, sign, which string, q tree.Query, at *place) plan.Cond {
	made, kind := c.expr(left, at)
	asked, columns := c.within(q, at)
	c.sideBySide([]tables.Column{{Type: kind}}, columns)
	return plan.Versus(made, sign, which, asked)
}

// within checks a query within a condition, and tells its columns.
func (c *checker) within(q tree.Query, at *place) (*plan.Within, []tables.Column) {
	in := &within{at: at}
	checked, columns := c.query(q, in)
	made := &plan.Within{Query: checked}
	for _, n := range in.needs {
		made.Needs = append(made.Needs, plan.Column(n.out, n.at))
	}
	return made, columns
}
