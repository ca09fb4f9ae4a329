package bags_test

import (
	"math/rand/v2"
	"slices"
	"strings"
	"testing"

	"bags/api"
	"bags/bags"
	"bags/tree"
)

// seen is a column that may be named: all of them stand in one list, those of inner queries at a higher level.
type seen struct {
	level        int
	source, name string
	kind         string // int or text
	shown        bool
}

// columnsOf is the tables of the examples, in the order of their columns.
func columnsOf(table string) []seen {
	return map[string][]seen{
		"town":   {{name: "id", kind: "int"}, {name: "name", kind: "text"}},
		"person": {{name: "name", kind: "text"}, {name: "town", kind: "int"}, {name: "age", kind: "int"}},
		"none":   {{name: "x", kind: "int"}},
	}[table]
}

func goesBy(s tree.Source) string {
	if s.As != "" {
		return s.As
	}
	return s.Table
}

func ownColumns(s tree.Select, level int) []seen {
	var list []seen
	for _, source := range s.Sources {
		for _, c := range columnsOf(source.Table) {
			list = append(list, seen{level, goesBy(source), c.name, c.kind, true})
		}
	}
	return list
}

// meant lists the columns that a name may mean.
func meant(c tree.Column, list []seen) []seen {
	top := -1
	for _, s := range list {
		if c.Source == "" && s.name == c.Name || c.Source != "" && s.source == c.Source {
			top = max(top, s.level)
		}
	}
	return slices.DeleteFunc(slices.Clone(list), func(s seen) bool {
		return s.level != top || s.name != c.Name || c.Source != "" && s.source != c.Source
	})
}

// countsIn asks if a count, sum, min or max is written in a text. (No text of the queries here has such a word.)
func countsIn(text string) bool {
	return slices.ContainsFunc([]string{"count(", "sum(", "min(", "max("}, func(s string) bool { return strings.Contains(text, s) })
}

func makesGroups(s tree.Select) bool {
	return len(s.Group) > 0 || slices.ContainsFunc(s.Items, func(i tree.Item) bool { return countsIn(i.Written()) })
}

// A side is what may be named at some side of a query: inner is what may be within count, sum, min and max, nil if these may not stand there.
type side struct{ outer, inner []seen }

// sides tells what the where of a selection may name, and what its items and having may.
func sides(s tree.Select, around []seen, level int) (side, side) {
	own := ownColumns(s, level)
	all := append(slices.Clone(around), own...)
	if !makesGroups(s) {
		return side{outer: all}, side{outer: all}
	}
	some := slices.Clone(all)
	for i := len(around); i < len(some); i++ {
		some[i].shown = slices.ContainsFunc(s.Group, func(c tree.Column) bool {
			return slices.Contains(meant(c, own), all[i])
		})
	}
	return side{outer: all}, side{outer: some, inner: all}
}

// namesRight is P6.
func namesRight(q tree.Query, around []seen, level int) bool {
	if q, ok := q.(tree.Joined); ok {
		return namesRight(q.Left, around, level) && namesRight(q.Right, around, level)
	}
	s := q.(tree.Select)
	for i, source := range s.Sources {
		same := func(other tree.Source) bool { return goesBy(other) == goesBy(source) }
		if i == 3 || columnsOf(source.Table) == nil || slices.ContainsFunc(s.Sources[:i], same) {
			return false
		}
	}
	for _, c := range s.Group {
		if len(meant(c, ownColumns(s, level))) != 1 {
			return false
		}
	}
	where, rest := sides(s, around, level)
	right := !makesGroups(s) || len(s.Items) > 0
	right = right && condNamesRight(s.Where, where, level) && condNamesRight(s.Having, rest, level)
	for _, i := range s.Items {
		right = right && exprNamesRight(i.Expr, rest)
	}
	return right
}

func condNamesRight(c tree.Cond, at side, level int) bool {
	switch c := c.(type) {
	case tree.Logic:
		return condNamesRight(c.Left, at, level) && condNamesRight(c.Right, at, level)
	case tree.Not:
		return condNamesRight(c.Of, at, level)
	case tree.Compare:
		return exprNamesRight(c.Left, at) && exprNamesRight(c.Right, at)
	case tree.IsNull:
		return exprNamesRight(c.Left, at)
	case tree.Exists:
		return namesRight(c.Query, at.outer, level+1)
	case tree.In:
		return exprNamesRight(c.Left, at) && namesRight(c.Query, at.outer, level+1)
	case tree.Versus:
		return exprNamesRight(c.Left, at) && namesRight(c.Query, at.outer, level+1)
	}
	return true
}

func exprNamesRight(e tree.Expr, at side) bool {
	switch e := e.(type) {
	case tree.Column:
		list := meant(e, at.outer)
		return len(list) == 1 && list[0].shown
	case tree.Negated:
		return exprNamesRight(e.Of, at)
	case tree.Arith:
		return exprNamesRight(e.Left, at) && exprNamesRight(e.Right, at)
	case tree.Aggregate:
		return at.inner != nil && (e.Of == nil || exprNamesRight(e.Of, side{outer: at.inner}))
	}
	return true
}

// oneType is the type of two parts of one type, "wrong" if they are not.
func oneType(a, b string) string {
	if b == "null" || a == b {
		return a
	}
	if a == "null" {
		return b
	}
	return "wrong"
}

// typesOf is the types of a query's columns by P7, whose names are right: with a "wrong" among them if something does not go together.
func typesOf(q tree.Query, around []seen, level int) []string {
	if q, ok := q.(tree.Joined); ok {
		left, right := typesOf(q.Left, around, level), typesOf(q.Right, around, level)
		if len(left) != len(right) {
			return []string{"wrong"}
		}
		for i := range left {
			left[i] = oneType(left[i], right[i])
		}
		return left
	}
	s := q.(tree.Select)
	where, rest := sides(s, around, level)
	if !condTypesRight(s.Where, where, level) || !condTypesRight(s.Having, rest, level) {
		return []string{"wrong"}
	}
	var types []string
	for _, i := range s.Items {
		types = append(types, typeOf(i.Expr, rest))
	}
	if len(s.Items) == 0 {
		for _, c := range ownColumns(s, level) {
			types = append(types, c.kind)
		}
	}
	return types
}

func condTypesRight(c tree.Cond, at side, level int) bool {
	asked := func(left tree.Expr, q tree.Query) bool {
		types := typesOf(q, at.outer, level+1)
		return len(types) == 1 && oneType(typeOf(left, at), types[0]) != "wrong"
	}
	switch c := c.(type) {
	case tree.Logic:
		return condTypesRight(c.Left, at, level) && condTypesRight(c.Right, at, level)
	case tree.Not:
		return condTypesRight(c.Of, at, level)
	case tree.Compare:
		return oneType(typeOf(c.Left, at), typeOf(c.Right, at)) != "wrong"
	case tree.IsNull:
		return typeOf(c.Left, at) != "wrong"
	case tree.Exists:
		return !slices.Contains(typesOf(c.Query, at.outer, level+1), "wrong")
	case tree.In:
		return asked(c.Left, c.Query)
	case tree.Versus:
		return asked(c.Left, c.Query)
	}
	return true
}

func typeOf(e tree.Expr, at side) string {
	switch e := e.(type) {
	case tree.Literal:
		switch {
		case e.Written() == "null":
			return "null"
		case strings.HasPrefix(e.Written(), "'"):
			return "text"
		}
		return "int"
	case tree.Column:
		return meant(e, at.outer)[0].kind
	case tree.Negated:
		return oneType("int", typeOf(e.Of, at))
	case tree.Arith:
		return oneType(oneType("int", typeOf(e.Left, at)), typeOf(e.Right, at))
	}
	a := e.(tree.Aggregate)
	if a.Of == nil {
		return "int"
	}
	of := typeOf(a.Of, side{outer: at.inner})
	switch {
	case a.Name == "count" && of != "wrong":
		return "int"
	case a.Name == "sum":
		return oneType("int", of)
	}
	return of
}

// wanted is the kind that P6 and P7 ask for.
func wanted(q tree.Query) api.Errno {
	switch {
	case !namesRight(q, nil, 0):
		return api.ErrScope
	case slices.Contains(typesOf(q, nil, 0), "wrong"):
		return api.ErrType
	}
	return api.OK
}

// asker makes queries by chance, most of whose parts go together.
type asker struct{ *rand.Rand }

func pick[T any](a asker, list ...T) T { return list[a.IntN(len(list))] }

func (a asker) chance(percent int) bool { return a.IntN(100) < percent }

func (a asker) query(size int, around []seen, level int) tree.Query {
	if size > 0 && a.chance(20) {
		sign := pick(a, "union", "intersect", "except") + pick(a, "", " all")
		return tree.Joined{Pair: tree.Pair[tree.Query]{Left: a.query(size-1, around, level), Sign: sign, Right: a.query(size-1, around, level)}}
	}
	s := tree.Select{Distinct: a.chance(10)}
	for range pick(a, 1, 1, 1, 1, 1, 2, 2, 2, 3, 4) {
		s.Sources = append(s.Sources, a.source(s.Sources))
	}
	own := ownColumns(s, level)
	all := append(slices.Clone(around), own...)
	if a.chance(30) {
		for range 1 + a.IntN(2) {
			s.Group = append(s.Group, a.column(own, ""))
		}
	}
	m := exprMaker{a, all, len(s.Group) > 0 || a.chance(20), all}
	if a.chance(50) {
		s.Where = exprMaker{a, all, a.chance(1), all}.cond(size, level)
	}
	if m.counts && a.chance(95) {
		m.list = slices.Clone(around)
		for _, c := range s.Group {
			m.list = append(m.list, meant(c, own)...)
		}
	}
	if len(s.Group) > 0 && a.chance(60) {
		s.Having = m.cond(size, level)
	}
	if m.counts && a.chance(97) || a.chance(80) {
		for range pick(a, 1, 1, 1, 2) {
			s.Items = append(s.Items, tree.Item{Expr: m.expr(pick(a, "int", "text"), a.IntN(3)), Alias: tree.Alias{As: pick(a, "", "", "id")}})
		}
	}
	return s
}

// source is mostly one that goes by a name that none of the others does.
func (a asker) source(others []tree.Source) tree.Source {
	for {
		s := tree.Source{Table: pick(a, "town", "person", "none"), Alias: tree.Alias{As: pick(a, "", "", "", "a", "b", "town")}}
		if a.chance(1) {
			s.Table = "nobody"
		}
		if a.chance(3) || !slices.ContainsFunc(others, func(o tree.Source) bool { return goesBy(o) == goesBy(s) }) {
			return s
		}
	}
}

// column is mostly one of these, of the kind if one is.
func (a asker) column(list []seen, kind string) tree.Column {
	if len(list) == 0 || a.chance(2) {
		return tree.Column{Name: pick(a, "id", "name", "town", "age", "x", "nobody"), Source: pick(a, "", "a", "b", "town", "none")}
	}
	s := pick(a, list...)
	for tries := 0; s.kind != kind && tries < 5; tries++ {
		s = pick(a, list...)
	}
	if a.chance(70) || len(meant(tree.Column{Name: s.name}, list)) > 1 {
		return tree.Column{Name: s.name, Source: s.source}
	}
	return tree.Column{Name: s.name}
}

// exprMaker makes expressions and conditions with columns of a list; counts: with count and so on too, of columns of all.
type exprMaker struct {
	asker
	list   []seen
	counts bool
	all    []seen
}

func (m exprMaker) expr(kind string, size int) tree.Expr {
	if m.chance(3) {
		kind = pick(m.asker, "int", "text")
	}
	if m.counts && m.chance(30) {
		return m.aggregate(kind, size)
	}
	if kind == "text" || size <= 0 {
		return m.leaf(kind)
	}
	if m.chance(20) {
		return tree.Negated{Of: m.expr("int", size-1)}
	}
	pair := tree.Pair[tree.Expr]{Left: m.expr("int", size-1), Sign: pick(m.asker, "+", "-", "*", "/", "%"), Right: m.expr("int", size-2)}
	return tree.Arith{Pair: pair}
}

func (m exprMaker) aggregate(kind string, size int) tree.Expr {
	if kind == "int" && m.chance(30) {
		return tree.Aggregate{Name: "count"}
	}
	within := exprMaker{m.asker, m.all, m.chance(1), m.all}
	if kind == "int" && m.chance(50) {
		return tree.Aggregate{Name: pick(m.asker, "sum", "count"), Of: within.expr("int", size-1)}
	}
	return tree.Aggregate{Name: pick(m.asker, "min", "max"), Of: within.expr(kind, size-1)}
}

func (m exprMaker) leaf(kind string) tree.Expr {
	switch {
	case m.chance(12):
		return tree.Literal{Value: api.Null{}}
	case len(m.list) > 0 && m.chance(75):
		return m.column(m.list, kind)
	case kind == "int":
		return tree.Literal{Value: api.Int(m.IntN(3))}
	}
	return tree.Literal{Value: api.Text("x")}
}

func (m exprMaker) cond(size, level int) tree.Cond {
	kind := pick(m.asker, "int", "text")
	sign := pick(m.asker, "=", "<>", "<", "<=", ">", ">=")
	left := m.expr(kind, 1)
	if size <= 0 {
		return tree.Compare{Pair: tree.Pair[tree.Expr]{Left: left, Sign: sign, Right: m.expr(kind, 0)}}
	}
	within := func() tree.Within { return tree.Within{Query: m.query(size-1, m.list, level+1)} }
	switch m.IntN(8) {
	case 0:
		return tree.Logic{Pair: tree.Pair[tree.Cond]{Left: m.cond(size-1, level), Sign: pick(m.asker, "and", "or"), Right: m.cond(size-1, level)}}
	case 1:
		return tree.Not{Of: m.cond(size-1, level)}
	case 2:
		return tree.IsNull{Left: left, Not: m.chance(50)}
	case 3:
		return tree.In{Left: left, Not: m.chance(50), Within: within()}
	case 4:
		return tree.Versus{Left: left, Sign: sign, Which: pick(m.asker, "any", "all"), Within: within()}
	case 5, 6:
		return tree.Exists{Within: within()}
	}
	return m.cond(0, level)
}

func TestCheckedAsReadAnotherWay(t *testing.T) {
	d, err := bags.Open(towns)
	if err != nil {
		t.Fatal(err)
	}
	a := asker{rand.New(rand.NewPCG(6, 7))}
	met := map[api.Errno]int{}
	for range 60000 {
		q := a.query(a.IntN(4), nil, 0)
		text := q.Written()
		if _, err := bags.Print(text); err != nil {
			continue // it is too long, or has too many brackets
		}
		r, err := d.Query(text)
		kind, at := kindAndPlace(t, err)
		if kind > api.ErrType {
			kind = api.OK
		}
		if want := wanted(q); kind != want || at != 0 || (r == nil) != (err != nil) {
			t.Fatalf("P6, P7: Query(%q) = %v, %v, want the kind %d", text, r, err, want)
		}
		met[kind]++
	}
	if min(met[api.OK], met[api.ErrScope], met[api.ErrType]) < 3000 {
		t.Errorf("the queries are too much of one kind: %v", met)
	}
}
