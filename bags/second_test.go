package bags_test

import (
	"math/big"
	"math/rand/v2"
	"slices"
	"sort"
	"strings"
	"testing"

	"bags/api"
	"bags/bags"
	"bags/plain"
	"bags/tables"
	"bags/tree"
)

// second answers queries from their parts, by names, without any haste: what it answers is held against the program's answers.
type second struct {
	tables map[string]*tables.Table
}

// env is the columns that may be named, those of inner queries at a higher level, and their values.
type env []struct {
	seen
	value api.Value
}

// trouble collects the errors that are met.
type trouble []api.Errno

func (t *trouble) add(kind api.Errno) { *t = append(*t, kind) }

func (t *trouble) least() api.Errno {
	if len(*t) == 0 {
		return api.OK
	}
	return slices.Min(*t)
}

// group is a row, or (rows not nil) a group.
type group struct {
	env
	rows []env
}

func (s second) query(q tree.Query, around env, level int) ([][]api.Value, api.Errno) {
	if q, ok := q.(tree.Joined); ok {
		left, met := s.query(q.Left, around, level)
		right, also := s.query(q.Right, around, level)
		var all trouble
		for _, kind := range []api.Errno{met, also} {
			if kind != api.OK {
				all.add(kind)
			}
		}
		return putTogether(left, q.Sign, right), all.least()
	}
	return s.selection(q.(tree.Select), around, level)
}

func (s second) selection(q tree.Select, around env, level int) ([][]api.Value, api.Errno) {
	var met trouble
	var left []group
	for _, e := range s.product(q.Sources, around, level) {
		if q.Where == nil || s.cond(q.Where, group{env: e}, level, &met) == 1 {
			left = append(left, group{env: e})
		}
	}
	if len(met) > 0 {
		return nil, met.least()
	}
	if makesGroups(q) {
		left = s.groups(q, left, around, level)
		for _, g := range left {
			s.aggregates(q, g, level, &met)
		}
		if len(met) > 0 {
			return nil, met.least()
		}
		left = slices.DeleteFunc(left, func(g group) bool { return q.Having != nil && s.cond(q.Having, g, level, &met) != 1 })
		if len(met) > 0 {
			return nil, met.least()
		}
	}
	rows := [][]api.Value{}
	for _, g := range left {
		row := s.row(q, g, level, &met)
		if !q.Distinct || times(rows, row) == 0 {
			rows = append(rows, row)
		}
	}
	return rows, met.least()
}

func (s second) row(q tree.Select, g group, level int, met *trouble) []api.Value {
	var row []api.Value
	for _, item := range q.Items {
		row = append(row, s.expr(item.Expr, g, level, met))
	}
	for _, c := range g.env {
		if len(q.Items) == 0 && c.level == level {
			row = append(row, c.value)
		}
	}
	return row
}

func (s second) product(sources []tree.Source, around env, level int) []env {
	if len(sources) == 0 {
		return []env{around}
	}
	var list []env
	first := sources[0]
	for _, row := range s.tables[first.Table].Rows {
		longer := slices.Clone(around)
		for i, c := range columnsOf(first.Table) {
			longer = append(longer, env{{seen{level, goesBy(first), c.name, c.kind, true}, row[i]}}...)
		}
		list = append(list, s.product(sources[1:], longer, level)...)
	}
	return list
}

// find is the value of a column: of the highest level that has one of that name.
func (e env) find(c tree.Column) api.Value {
	for i := len(e) - 1; i >= 0; i-- {
		if e[i].name == c.Name && (c.Source == "" || c.Source == e[i].source) {
			return e[i].value
		}
	}
	panic("there is no column " + c.Written())
}

func (s second) groups(q tree.Select, rows []group, around env, level int) []group {
	if len(q.Group) == 0 {
		all := group{env: around, rows: []env{}}
		for _, r := range rows {
			all.rows = append(all.rows, r.env)
		}
		return []group{all}
	}
	places := map[string]int{}
	var list []group
	for _, r := range rows {
		key := ""
		for _, c := range q.Group {
			key += r.find(c).Written() + ","
		}
		if _, there := places[key]; !there {
			places[key] = len(list)
			list = append(list, group{env: r.env})
		}
		list[places[key]].rows = append(list[places[key]].rows, r.env)
	}
	return list
}

// aggregates asks for the errors of all that is counted, summed and so on.
func (s second) aggregates(q tree.Select, g group, level int, met *trouble) {
	for _, item := range q.Items {
		s.inExpr(item.Expr, g, level, met)
	}
	s.inCond(q.Having, g, level, met)
}

func (s second) inExpr(e tree.Expr, g group, level int, met *trouble) {
	switch e := e.(type) {
	case tree.Negated:
		s.inExpr(e.Of, g, level, met)
	case tree.Arith:
		s.inExpr(e.Left, g, level, met)
		s.inExpr(e.Right, g, level, met)
	case tree.Aggregate:
		s.aggregate(e, g, level, met)
	}
}

func (s second) inCond(c tree.Cond, g group, level int, met *trouble) {
	switch c := c.(type) {
	case tree.Logic:
		s.inCond(c.Left, g, level, met)
		s.inCond(c.Right, g, level, met)
	case tree.Not:
		s.inCond(c.Of, g, level, met)
	case tree.Compare:
		s.inExpr(c.Left, g, level, met)
		s.inExpr(c.Right, g, level, met)
	case tree.IsNull:
		s.inExpr(c.Left, g, level, met)
	case tree.In:
		s.inExpr(c.Left, g, level, met)
	case tree.Versus:
		s.inExpr(c.Left, g, level, met)
	}
}

func (s second) aggregate(a tree.Aggregate, g group, level int, met *trouble) api.Value {
	if a.Of == nil {
		return api.Int(len(g.rows))
	}
	var values []api.Value
	var own trouble
	for _, e := range g.rows {
		if v := s.expr(a.Of, group{env: e}, level, &own); v.Written() != "null" {
			values = append(values, v)
		}
	}
	*met = append(*met, own...)
	if a.Name == "count" {
		return api.Int(len(values))
	}
	if len(values) == 0 || len(own) > 0 {
		return api.Null{}
	}
	if a.Name == "sum" {
		total := new(big.Int)
		for _, v := range values {
			total.Add(total, bigOf(v))
		}
		return fit(total, met)
	}
	sort.Slice(values, func(i, j int) bool { return ahead(values[i], values[j]) })
	if a.Name == "min" {
		return values[0]
	}
	return values[len(values)-1]
}

func bigOf(v api.Value) *big.Int {
	n, _ := new(big.Int).SetString(v.Written(), 10)
	return n
}

func fit(n *big.Int, met *trouble) api.Value {
	if !n.IsInt64() {
		met.add(api.ErrOverflow)
		return api.Null{}
	}
	return api.Int(n.Int64())
}

func (s second) expr(e tree.Expr, g group, level int, met *trouble) api.Value {
	switch e := e.(type) {
	case tree.Literal:
		return e.Value
	case tree.Column:
		return g.find(e)
	case tree.Negated:
		return worth("-", api.Int(0), s.expr(e.Of, g, level, met), met)
	case tree.Arith:
		return worth(e.Sign, s.expr(e.Left, g, level, met), s.expr(e.Right, g, level, met), met)
	}
	return s.aggregate(e.(tree.Aggregate), g, level, met)
}

func worth(sign string, l, r api.Value, met *trouble) api.Value {
	if l.Written() == "null" || r.Written() == "null" {
		return api.Null{}
	}
	a, b, n := bigOf(l), bigOf(r), new(big.Int)
	if (sign == "/" || sign == "%") && b.Sign() == 0 {
		met.add(api.ErrDivide)
		return api.Null{}
	}
	switch sign {
	case "+":
		n.Add(a, b)
	case "-":
		n.Sub(a, b)
	case "*":
		n.Mul(a, b)
	case "/":
		n.Quo(a, b)
	case "%":
		n.Rem(a, b)
	}
	return fit(n, met)
}

// cond is 1 if a condition is true, -1 if it is false, 0 if it is unknown.
func (s second) cond(c tree.Cond, g group, level int, met *trouble) int {
	switch c := c.(type) {
	case tree.Logic:
		l, r := s.cond(c.Left, g, level, met), s.cond(c.Right, g, level, met)
		if c.Sign == "and" {
			return min(l, r)
		}
		return max(l, r)
	case tree.Not:
		return -s.cond(c.Of, g, level, met)
	case tree.Compare:
		return holds(c.Sign, s.expr(c.Left, g, level, met), s.expr(c.Right, g, level, met))
	case tree.IsNull:
		return yes((s.expr(c.Left, g, level, met).Written() == "null") != c.Not)
	case tree.Exists:
		return yes(len(s.within(c.Query, g, level, met)) > 0)
	case tree.In:
		t := s.versus(c.Left, "=", "any", c.Query, g, level, met)
		if c.Not {
			return -t
		}
		return t
	}
	v := c.(tree.Versus)
	return s.versus(v.Left, v.Sign, v.Which, v.Query, g, level, met)
}

func (s second) within(q tree.Query, g group, level int, met *trouble) [][]api.Value {
	rows, also := s.query(q, g.env, level+1)
	if also != api.OK {
		met.add(also)
		return nil
	}
	return rows
}

func (s second) versus(left tree.Expr, sign, which string, q tree.Query, g group, level int, met *trouble) int {
	v := s.expr(left, g, level, met)
	truths := []int{}
	for _, row := range s.within(q, g, level, met) {
		truths = append(truths, holds(sign, v, row[0]))
	}
	if which == "any" {
		return slices.Max(append(truths, -1))
	}
	return slices.Min(append(truths, 1))
}

func yes(is bool) int {
	if is {
		return 1
	}
	return -1
}

func holds(sign string, a, b api.Value) int {
	if a.Written() == "null" || b.Written() == "null" {
		return 0
	}
	return yes(strings.Contains(sign, "=") && a == b || strings.Contains(sign, "<") && ahead(a, b) || strings.Contains(sign, ">") && ahead(b, a))
}

// ahead is the order of P14, for two values of one column.
func ahead(a, b api.Value) bool {
	switch {
	case b.Written() == "null":
		return false
	case a.Written() == "null":
		return true
	}
	if a, ok := a.(api.Text); ok {
		return string(a) < string(b.(api.Text))
	}
	return bigOf(a).Cmp(bigOf(b)) < 0
}

func times(rows [][]api.Value, row []api.Value) int {
	n := 0
	for _, other := range rows {
		if slices.Equal(row, other) {
			n++
		}
	}
	return n
}

// putTogether takes rows one by one: from those of the left, those of the right are taken away, or matched.
func putTogether(left [][]api.Value, sign string, right [][]api.Value) [][]api.Value {
	kind, all := strings.CutSuffix(sign, " all")
	if !all {
		left, right = eachOnce(left), eachOnce(right)
	}
	var out [][]api.Value
	for i, row := range left {
		matched := times(left[:i], row) < times(right, row)
		if kind == "union" || matched == (kind == "intersect") {
			out = append(out, row)
		}
	}
	if kind == "union" {
		out = append(out, right...)
	}
	if !all {
		out = eachOnce(out)
	}
	return out
}

func eachOnce(rows [][]api.Value) [][]api.Value {
	var out [][]api.Value
	for _, row := range rows {
		if times(out, row) == 0 {
			out = append(out, row)
		}
	}
	return out
}

// namesOf is the columns' names.
func namesOf(q tree.Query) []string {
	if q, ok := q.(tree.Joined); ok {
		return namesOf(q.Left)
	}
	var names []string
	s := q.(tree.Select)
	for _, item := range s.Items {
		name := "?"
		if c, ok := item.Expr.(tree.Column); ok {
			name = c.Name
		}
		if item.As != "" {
			name = item.As
		}
		names = append(names, name)
	}
	if len(s.Items) == 0 {
		for _, c := range ownColumns(s, 0) {
			names = append(names, c.name)
		}
	}
	return names
}

// told is the columns, the rows in order, and the error, of a query that is right.
func (s second) told(q tree.Query) ([]string, []string, api.Errno) {
	rows, met := s.query(q, nil, 0)
	if met == api.OK && len(rows) > 2000 {
		met = api.ErrLimit
	}
	if met != api.OK {
		return nil, nil, met
	}
	sort.Slice(rows, func(i, j int) bool {
		for at := range rows[i] {
			if rows[i][at] != rows[j][at] {
				return ahead(rows[i][at], rows[j][at])
			}
		}
		return false
	})
	var list []string
	for _, row := range rows {
		var values []string
		for _, v := range row {
			values = append(values, v.Written())
		}
		list = append(list, strings.Join(values, ","))
	}
	return namesOf(q), list, api.OK
}

// work is how many rows are gone through, at most.
func (s second) work(q tree.Query) int {
	if q, ok := q.(tree.Joined); ok {
		return s.work(q.Left) + s.work(q.Right)
	}
	n := 1
	for _, source := range q.(tree.Select).Sources {
		n *= max(1, len(s.tables[source.Table].Rows))
	}
	return n * (1 + s.condWork(q.(tree.Select).Where) + s.condWork(q.(tree.Select).Having))
}

func (s second) condWork(c tree.Cond) int {
	switch c := c.(type) {
	case tree.Logic:
		return s.condWork(c.Left) + s.condWork(c.Right)
	case tree.Not:
		return s.condWork(c.Of)
	case tree.Exists:
		return s.work(c.Query)
	case tree.In:
		return s.work(c.Query)
	case tree.Versus:
		return s.work(c.Query)
	}
	return 0
}

// Tables of the examples' columns, with other rows: nulls, rows that are the same, numbers at the ends of 64 bits.
func otherTowns() []string {
	return []string{
		towns,
		"table town id int name text\nrow 0 'Bo'\nrow null null\nrow 1 'Bo'\nrow 1 'Bo'\nrow -2 ''\ntable person name text town int age int\nrow 'Bo' 1 0\nrow 'x' -2 1\nrow null null 2\nrow 'Bo' 1 0\ntable none x int\nrow 1\nrow null\nrow 1\n",
		"table town id int name text\nrow 9223372036854775807 'x'\nrow 1 'Oslo'\nrow -9223372036854775808 null\ntable person name text town int age int\nrow 'x' 1 9223372036854775807\nrow 'x' 0 -9223372036854775808\nrow 'y' 1 9223372036854775807\nrow 'x' 2 4611686018427387904\nrow null null -1\nrow 'y' -1 3\ntable none x int\nrow 2\nrow 0\n",
	}
}

// held holds what the program answers against what the second answers, and tells that; the query must be right, and not too much work.
func (s second) held(t *testing.T, data string, q tree.Query) ([]string, api.Errno, bool) {
	t.Helper()
	text := q.Written()
	if _, err := bags.Print(text); err != nil || wanted(q) != api.OK || s.work(q) > 5000 {
		return nil, api.OK, false
	}
	columns, rows, kind, at := plain.Run(data, text, nil)
	wantColumns, wantRows, want := s.told(q)
	if api.Errno(kind) != want || at != 0 || !slices.Equal(columns, wantColumns) || !slices.Equal(rows, wantRows) {
		t.Fatalf("P8 to P14: of the tables %q, %q tells %q, %q, the kind %d, want %q, %q, %d", data, text, columns, rows, kind, wantColumns, wantRows, want)
	}
	return wantRows, want, true
}

func TestAnsweredAsReadAnotherWay(t *testing.T) {
	a := asker{rand.New(rand.NewPCG(8, 14))}
	met := map[api.Errno]int{}
	for _, data := range otherTowns() {
		s := second{tables.Read(data)}
		for range 15000 {
			if _, want, fits := s.held(t, data, a.query(a.IntN(4), nil, 0)); fits {
				met[want]++
			}
		}
	}
	if met[api.OK] < 10000 || met[api.ErrOverflow] < 500 || met[api.ErrDivide] < 500 {
		t.Errorf("the queries are too much of one kind: %v", met)
	}
}

// around is a query with a condition of that form, of rows or of groups.
func (a asker) around(form string) tree.Query {
	s := tree.Select{Sources: []tree.Source{a.source(nil)}}
	if a.chance(30) {
		s.Sources = append(s.Sources, a.source(s.Sources))
	}
	own := ownColumns(s, 0)
	m := exprMaker{a, own, false, own}
	if a.chance(70) {
		s.Where = m.within(form)
	} else {
		s.Group = []tree.Column{a.column(own, "int")}
		m = exprMaker{a, meant(s.Group[0], own), true, own}
		s.Having = m.within(form)
	}
	s.Items = []tree.Item{{Expr: m.expr("int", 0)}, {Expr: m.expr("text", 0)}}
	return s
}

// within is a condition of that form, or its negation.
func (m exprMaker) within(form string) tree.Cond {
	kind := pick(m.asker, "int", "text")
	left, asked := m.expr(kind, 1), tree.Within{Query: m.fitting(kind, form == "exists")}
	var made tree.Cond
	switch form {
	case "exists":
		made = tree.Exists{Within: asked}
	case "in", "not in":
		made = tree.In{Left: left, Not: form == "not in", Within: asked}
	default:
		made = tree.Versus{Left: left, Sign: pick(m.asker, "=", "<>", "<", "<=", ">", ">="), Which: form, Within: asked}
	}
	if m.chance(30) {
		return tree.Not{Of: made}
	}
	return made
}

// fitting is a query that goes together with what is around it: of one column of the kind, or of any columns.
func (m exprMaker) fitting(kind string, any bool) tree.Query {
	for {
		q := m.query(1+m.IntN(2), m.list, 1)
		if !namesRight(q, m.list, 1) {
			continue
		}
		types := typesOf(q, m.list, 1)
		if any && !slices.Contains(types, "wrong") || len(types) == 1 && oneType(types[0], kind) == kind {
			return q
		}
	}
}

func TestQueriesWithinAsReadAnotherWay(t *testing.T) {
	a := asker{rand.New(rand.NewPCG(13, 4))}
	for _, form := range []string{"exists", "any", "all", "in", "not in"} {
		some, none, wrong := 0, 0, 0
		for _, data := range otherTowns() {
			s := second{tables.Read(data)}
			for range 600 {
				rows, want, fits := s.held(t, data, a.around(form))
				switch {
				case !fits:
				case want != api.OK:
					wrong++
				case len(rows) > 0:
					some++
				default:
					none++
				}
			}
		}
		if min(some, none, wrong) < 100 {
			t.Errorf("the queries with %s are too much of one kind: %d with rows, %d without, %d with an error", form, some, none, wrong)
		}
	}
}
