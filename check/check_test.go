package check

import (
	"slices"
	"strings"
	"testing"

	"bags/api"
	"bags/parse"
	"bags/plan"
	"bags/tables"
)

const towns = "table town id int name text\nrow 1 'Oslo'\nrow 2 'Rome'\nrow 3 null\ntable person name text town int age int\nrow 'Ann' 1 30\nrow 'Bo' 1 41\ntable none x int\n"

// noting notes what the queries within need of the frame around them, and looks into these for others.
type noting struct{ needs []string }

// Answer notes what a query needs; no rows come out.
func (n *noting) Answer(w *plan.Within, around *plan.Frame) (plan.Answer, api.Errno) {
	row, _ := plan.Row(w.Needs)(around)
	var values []string
	for _, v := range row {
		values = append(values, v.Written())
	}
	n.needs = append(n.needs, strings.Join(values, ","))
	n.look(w.Query, around)
	return plan.Answer{}, api.OK
}

// look looks at the conditions of a query for the first rows of its sources.
func (n *noting) look(q plan.Query, around *plan.Frame) {
	switch q := q.(type) {
	case *plan.Joined:
		n.look(q.Left, around)
		n.look(q.Right, around)
	case *plan.Selection:
		f := &plan.Frame{Around: around, Runner: n, Entry: plan.Entry{Made: make([]api.Value, len(q.Made))}}
		for _, t := range q.Sources {
			f.Row = append(f.Row, t.Rows[0]...)
		}
		q.Where(f)
		q.Having(f)
	}
}

// A query within is answered once for the same values of the columns that it needs: so all must be among these, as seen from around it.
func TestWhatQueriesWithinNeed(t *testing.T) {
	for _, c := range []struct {
		query string
		needs []string // of each query within, from the outermost on
	}{
		{"select 1 from town where exists (select age from person where town = 1)", []string{""}},
		{"select 1 from town where exists (select age from person where town = id)", []string{"1"}},
		{"select 1 from town where exists (select id from person where town = id or id > 0)", []string{"1"}},
		{"select 1 from town where exists (select max(town.name) from person where town = id)", []string{"1,'Oslo'"}},
		{"select 1 from town where id in (select town from person)", []string{""}},
		{"select 1 from town where id in (select town + id from person)", []string{"1"}},
		{"select 1 from town where id in (select 1 from person union select count(*) + id from person group by age having town.name = 'x')", []string{"'Oslo',1"}},
		{"select 1 from town where id = all (select 1 from person where exists (select 1 from town as t where t.id = person.town))", []string{"", "1"}},
		{"select 1 from town where id = all (select 1 from person where exists (select 1 from town as t where t.id = town.id))", []string{"1", "1"}},
		{"select 1 from town where exists (select 1 from person where age in (select t.id from town as t where t.name = person.name and town.name = 'x'))", []string{"'Oslo'", "'Ann','Oslo'"}},
		{"select town from person group by town having exists (select 1 from town as t where id = person.town)", []string{"1"}},
	} {
		q, _ := Query(tables.Read(towns), parse.Query(c.query))
		n := &noting{}
		n.look(q, nil)
		if !slices.Equal(n.needs, c.needs) {
			t.Errorf("P13: the queries within %q need %q, want %q", c.query, n.needs, c.needs)
		}
	}
}

func TestNames(t *testing.T) {
	for query, want := range map[string]string{
		"select id, name as n, id + 1, (id), 'x' from town":          "id n ? id ?",
		"select * from town, person":                                 "id name name town age",
		"select count(*), max(id) as m from town":                    "? m",
		"select id as a from town union select town from person":     "a",
		"select null from none except (select id as a from town)":    "?",
		"(select * from none) intersect all select id + 1 from town": "x",
	} {
		if _, names := Query(tables.Read(towns), parse.Query(query)); strings.Join(names, " ") != want {
			t.Errorf("P14: the columns of %q are %q, want %q", query, names, want)
		}
	}
}
