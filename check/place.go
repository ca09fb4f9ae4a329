package check

import (
	"cmp"
	"slices"

	"bags/api"
	"bags/plan"
	"bags/tables"
	"bags/tree"
)

// place is where in a query a part stands: what the part may name hangs on that.
type place struct {
	sources []source
	in      *within // nil: the query stands within none
	group   *group  // nil: a row is at hand, not a group
}

// within is where a query stands in the one around it, and the columns from there on outwards that it names.
type within struct {
	at    *place
	needs []need
}

// need is a column, and how many queries further out it is.
type need struct{ out, at int }

// group is what may be named of a group.
type group struct {
	keys []int            // the columns behind group by
	rows *place           // where what is counted, summed and so on stands
	made []plan.Aggregate // what is counted, summed and so on, as far as it was met
}

// source is a table of a from, by the name that it goes by.
type source struct {
	name  string
	table *tables.Table
	first int // where in a row its values begin
}

// column is a column of a source: where in a row its value is.
type column struct {
	at   int
	kind tables.Type
}

func (c *checker) sources(list []tree.Source) []source {
	must(len(list) <= api.MaxSources)
	var made []source
	first := 0
	for _, s := range list {
		table, there := c.tables[s.Table]
		must(there)
		name := cmp.Or(s.As, s.Table)
		must(!slices.ContainsFunc(made, func(other source) bool { return other.name == name }))
		made = append(made, source{name: name, table: table, first: first})
		first += len(table.Columns)
	}
	return made
}

func (s source) column(i int) column {
	return column{at: s.first + i, kind: s.table.Columns[i].Type}
}

// all is what * selects.
func (p *place) all() ([]plan.Expr, []tables.Column) {
	var exprs []plan.Expr
	var columns []tables.Column
	for _, s := range p.sources {
		for i, column := range s.table.Columns {
			exprs, columns = append(exprs, plan.Column(0, s.column(i).at)), append(columns, column)
		}
	}
	return exprs, columns
}

// keys finds the columns behind group by, which are of the same from: no query around is asked.
func (p *place) keys(list []tree.Column) []int {
	own := &place{sources: p.sources}
	var keys []int
	for _, name := range list {
		_, found := own.look(name)
		keys = append(keys, found.at)
	}
	return keys
}

// grouped is the place of items and having where the rows of this one are put together.
func (p *place) grouped(keys []int) *place {
	return &place{sources: p.sources, in: p.in, group: &group{keys: keys, rows: p}}
}

// look finds the column that a name means, and how many queries further out it is.
func (p *place) look(name tree.Column) (int, column) {
	list := p.named(name)
	if len(list) == 0 {
		out, found := p.in.look(name)
		return out + 1, found
	}
	must(len(list) == 1 && p.shows(list[0]))
	return 0, list[0]
}

// look finds a column of the queries around, and notes that it is needed.
func (w *within) look(name tree.Column) (int, column) {
	must(w != nil)
	out, found := w.at.look(name)
	if n := (need{out, found.at}); !slices.Contains(w.needs, n) {
		w.needs = append(w.needs, n)
	}
	return out, found
}

// named lists the columns of this query's sources that a name fits.
func (p *place) named(name tree.Column) []column {
	var list []column
	for _, s := range p.sources {
		i, has := s.table.Places[name.Name]
		must(has || name.Source != s.name)
		if has && (name.Source == "" || name.Source == s.name) {
			list = append(list, s.column(i))
		}
	}
	return list
}

// shows asks if a column has one value here: of a group those behind group by alone have.
func (p *place) shows(c column) bool {
	return p.group == nil || slices.Contains(p.group.keys, c.at)
}
