package tree

import "strings"

// sides writes the pair without brackets, as comparisons have none.
func (p Pair[P]) sides() string {
	return p.Left.Written() + " " + p.Sign + " " + p.Right.Written()
}

// Written is the pair with its brackets.
func (p Pair[P]) Written() string { return "(" + p.sides() + ")" }

// behind writes what stands behind the part that has the name.
func (a Alias) behind() string {
	if a.As == "" {
		return ""
	}
	return " as " + a.As
}

// asked writes the query with the brackets that it always has in a condition.
func (w Within) asked() string { return " (" + w.Query.Written() + ")" }

// Written is the selection.
func (s Select) Written() string {
	text := "select "
	if s.Distinct {
		text += "distinct "
	}
	if len(s.Items) == 0 {
		text += "*"
	}
	text += commas(s.Items) + " from " + commas(s.Sources)
	if s.Where != nil {
		text += " where " + s.Where.Written()
	}
	if len(s.Group) > 0 {
		text += " group by " + commas(s.Group)
	}
	if s.Having != nil {
		text += " having " + s.Having.Written()
	}
	return text
}

func commas[P Part](parts []P) string {
	var list []string
	for _, p := range parts {
		list = append(list, p.Written())
	}
	return strings.Join(list, ", ")
}

// Written is the item with its name.
func (i Item) Written() string { return i.Expr.Written() + i.behind() }

// Written is the source with its name.
func (s Source) Written() string { return s.Table + s.behind() }

// Written is the negation with its brackets.
func (n Not) Written() string { return "(not " + n.Of.Written() + ")" }

// Written is the comparison.
func (c Compare) Written() string { return c.sides() }

// Written is the comparison.
func (v Versus) Written() string {
	return v.Left.Written() + " " + v.Sign + " " + v.Which + v.asked()
}

// Written is the question.
func (i In) Written() string {
	if i.Not {
		return i.Left.Written() + " not in" + i.asked()
	}
	return i.Left.Written() + " in" + i.asked()
}

// Written is the question.
func (e Exists) Written() string { return "exists" + e.asked() }

// Written is the question.
func (i IsNull) Written() string {
	if i.Not {
		return i.Left.Written() + " is not null"
	}
	return i.Left.Written() + " is null"
}

// Written is the negation with its brackets.
func (n Negated) Written() string { return "(-" + n.Of.Written() + ")" }

// Written is the value.
func (l Literal) Written() string { return l.Value.Written() }

// Written is the column's name.
func (c Column) Written() string {
	if c.Source == "" {
		return c.Name
	}
	return c.Source + "." + c.Name
}

// Written is the aggregate.
func (a Aggregate) Written() string {
	if a.Of == nil {
		return a.Name + "(*)"
	}
	return a.Name + "(" + a.Of.Written() + ")"
}
