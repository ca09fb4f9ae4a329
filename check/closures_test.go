package check

import (
	"cmp"
	"math/big"
	"slices"
	"strings"
	"testing"

	"bags/api"
	"bags/parse"
	"bags/plan"
	"bags/tables"
)

const towns = "table town id int name text\nrow 1 'Oslo'\nrow 2 'Rome'\nrow 3 null\ntable person name text town int age int\nrow 'Ann' 1 30\nrow 'Bo' 1 41\nrow 'Cy' 2 null\nrow 'Di' null 30\nrow 'Bo' 1 41\ntable none x int\n"

// simple runs checked queries in the simplest way, so that their functions are asked in all their places.
type simple struct{}

// Answer answers a query.
func (simple) Answer(q plan.Query, around *plan.Frame) ([][]api.Value, api.Errno) {
	switch q := q.(type) {
	case *plan.Joined:
		left, met := simple{}.Answer(q.Left, around)
		right, also := simple{}.Answer(q.Right, around)
		return joined(left, q.Sign, right), plan.Least(met, also)
	case *plan.Selection:
		return selected(q, around)
	}
	return nil, api.OK
}

func selected(s *plan.Selection, around *plan.Frame) ([][]api.Value, api.Errno) {
	frames, met := kept(product(s.Sources, around), s.Where)
	if met == api.OK && s.Groups {
		frames, met = grouped(s, frames, around)
	}
	if met == api.OK {
		frames, met = kept(frames, s.Having)
	}
	if met != api.OK {
		return nil, met
	}
	var rows [][]api.Value
	for _, f := range frames {
		var row []api.Value
		for _, item := range s.Items {
			v, also := item(f)
			row, met = append(row, v), plan.Least(met, also)
		}
		if !s.Distinct || !slices.ContainsFunc(rows, func(r []api.Value) bool { return slices.Equal(r, row) }) {
			rows = append(rows, row)
		}
	}
	return rows, met
}

func product(list []*tables.Table, around *plan.Frame) []*plan.Frame {
	rows := [][]api.Value{nil}
	for _, t := range list {
		var longer [][]api.Value
		for _, row := range rows {
			for _, more := range t.Rows {
				longer = append(longer, slices.Concat(row, more))
			}
		}
		rows = longer
	}
	var frames []*plan.Frame
	for _, row := range rows {
		frames = append(frames, &plan.Frame{Row: row, Around: around, Runner: simple{}})
	}
	return frames
}

func kept(frames []*plan.Frame, cond plan.Cond) ([]*plan.Frame, api.Errno) {
	var list []*plan.Frame
	met := api.OK
	for _, f := range frames {
		truth, also := cond(f)
		met = plan.Least(met, also)
		if truth == plan.True {
			list = append(list, f)
		}
	}
	return list, met
}

func grouped(s *plan.Selection, frames []*plan.Frame, around *plan.Frame) ([]*plan.Frame, api.Errno) {
	var groups [][]*plan.Frame
	if len(s.Keys) == 0 {
		groups = [][]*plan.Frame{frames}
		frames = nil
	}
	for _, f := range frames {
		same := func(g []*plan.Frame) bool {
			return !slices.ContainsFunc(s.Keys, func(k int) bool { return g[0].Row[k] != f.Row[k] })
		}
		if i := slices.IndexFunc(groups, same); i >= 0 {
			groups[i] = append(groups[i], f)
		} else {
			groups = append(groups, []*plan.Frame{f})
		}
	}
	var list []*plan.Frame
	met := api.OK
	for _, g := range groups {
		f := &plan.Frame{Around: around, Runner: simple{}}
		if len(g) > 0 {
			f.Row = g[0].Row
		}
		for _, a := range s.Made {
			v, also := worked(a, g)
			f.Made, met = append(f.Made, v), plan.Least(met, also)
		}
		list = append(list, f)
	}
	return list, met
}

func worked(a plan.Aggregate, group []*plan.Frame) (api.Value, api.Errno) {
	var values []api.Value
	met := api.OK
	for _, f := range group {
		v, also := a.Of(f)
		met = plan.Least(met, also)
		if v != (api.Null{}) {
			values = append(values, v)
		}
	}
	switch {
	case met != api.OK:
		return nil, met
	case a.Name == "count":
		return api.Int(len(values)), api.OK
	case len(values) == 0:
		return api.Null{}, api.OK
	case a.Name == "min":
		return slices.MinFunc(values, order), api.OK
	case a.Name == "max":
		return slices.MaxFunc(values, order), api.OK
	}
	sum := new(big.Int)
	for _, v := range values {
		sum.Add(sum, big.NewInt(int64(v.(api.Int))))
	}
	if !sum.IsInt64() {
		return nil, api.ErrOverflow
	}
	return api.Int(sum.Int64()), api.OK
}

// order has null ahead of numbers ahead of texts.
func order(a, b api.Value) int {
	switch a := a.(type) {
	case api.Int:
		if b, ok := b.(api.Int); ok {
			return cmp.Compare(a, b)
		}
	case api.Text:
		if b, ok := b.(api.Text); ok {
			return cmp.Compare(a, b)
		}
	}
	return rank(a) - rank(b)
}

func rank(v api.Value) int {
	switch v.(type) {
	case api.Null:
		return 0
	case api.Int:
		return 1
	}
	return 2
}

func joined(left [][]api.Value, sign string, right [][]api.Value) [][]api.Value {
	var out [][]api.Value
	all := append(slices.Clone(left), right...)
	for i, row := range all {
		same := func(r []api.Value) bool { return slices.Equal(r, row) }
		if slices.ContainsFunc(all[:i], same) {
			continue
		}
		l, r := count(left, same), count(right, same)
		out = append(out, slices.Repeat([][]api.Value{row}, times(sign, l, r))...)
	}
	return out
}

func count(rows [][]api.Value, same func([]api.Value) bool) int {
	n := 0
	for _, r := range rows {
		if same(r) {
			n++
		}
	}
	return n
}

func times(sign string, l, r int) int {
	switch sign {
	case "union all":
		return l + r
	case "intersect all":
		return min(l, r)
	case "except all":
		return max(l-r, 0)
	case "union":
		return 1
	case "intersect":
		return min(l, r, 1)
	}
	if r > 0 {
		return 0
	}
	return min(l, 1)
}

// told is the rows in order, or the error.
func told(query string) (string, api.Errno) {
	q := Query(tables.Read(towns), parse.Query(query))
	rows, met := simple{}.Answer(q, nil)
	if met != api.OK {
		return "", met
	}
	slices.SortFunc(rows, func(a, b []api.Value) int { return slices.CompareFunc(a, b, order) })
	var list []string
	for _, row := range rows {
		var values []string
		for _, v := range row {
			values = append(values, v.Written())
		}
		list = append(list, strings.Join(values, ","))
	}
	return strings.Join(list, "; "), api.OK
}

// The document's examples, of which the rows show that the functions look at the right places.
func TestFunctionsOfRows(t *testing.T) {
	for _, c := range [][2]string{
		{"select * from town", "1,'Oslo'; 2,'Rome'; 3,null"},
		{"select name from person", "'Ann'; 'Bo'; 'Bo'; 'Cy'; 'Di'"},
		{"select distinct name from person", "'Ann'; 'Bo'; 'Cy'; 'Di'"},
		{"select name, age from person where age > 30", "'Bo',41; 'Bo',41"},
		{"select name from person where age <> 30", "'Bo'; 'Bo'"},
		{"select name from person where not age <> 30", "'Ann'; 'Di'"},
		{"select name from person where age is null or town is null", "'Cy'; 'Di'"},
		{"select age + 1 as next from person where name = 'Ann'", "31"},
		{"select 7 / 2, 7 % 2, -7 / 2, (-7) % 2, 1 - 2 - 3, 2 + 3 * 4 from none", ""},
		{"select 7 / 2, 7 % 2, -7 / 2, (-7) % 2, 1 - 2 - 3, 2 + 3 * 4, null + 1 from town where id = 1", "3,1,-3,-1,-4,14,null"},
		{"select p.name, t.name from person as p, town as t where p.town = t.id", "'Ann','Oslo'; 'Bo','Oslo'; 'Bo','Oslo'; 'Cy','Rome'"},
		{"select * from none, town", ""},
		{"select * from town as a, town as b where a.id < b.id", "1,'Oslo',2,'Rome'; 1,'Oslo',3,null; 2,'Rome',3,null"},
		{"select b.id, age, a.name from town as a, person, town as b where a.id + b.id = town and person.name = 'Cy'", "1,null,'Oslo'"},
		{"select count(*), count(age), sum(age), min(age), max(name) from person", "5,4,142,30,'Di'"},
		{"select count(*), count(x), sum(x), min(x) from none", "0,0,null,null"},
		{"select count(*), x from none group by x", ""},
		{"select town, count(*) from person group by town", "null,1; 1,3; 2,1"},
		{"select max(age) - min(age) + town * count(*) from person group by town having max(name) = 'Bo'", "14"},
		{"select town, sum(age) as s from person group by town having count(*) > 1", "1,112"},
		{"select name from town where exists (select 1 from person where town = id)", "'Oslo'; 'Rome'"},
		{"select name from town where not exists (select 1 from person where town = id)", "null"},
		{"select name from town where id in (select town from person)", "'Oslo'; 'Rome'"},
		{"select name from town where id not in (select town from person)", ""},
		{"select name from town where id not in (select town from person where town is not null)", "null"},
		{"select name from person where age >= all (select age from person where age is not null)", "'Bo'; 'Bo'"},
		{"select name from person where age > any (select age from person)", "'Bo'; 'Bo'"},
		{"select id from town where 1 = all (select x from none)", "1; 2; 3"},
		{"select id from town where 1 = any (select x from none)", ""},
		{"select name from town union select name from person", "null; 'Ann'; 'Bo'; 'Cy'; 'Di'; 'Oslo'; 'Rome'"},
		{"select name from person union all select name from person where age = 41", "'Ann'; 'Bo'; 'Bo'; 'Bo'; 'Bo'; 'Cy'; 'Di'"},
		{"select name from person intersect all select name from person where age = 41", "'Bo'; 'Bo'"},
		{"select name from person except all select name from person where town = 1 and age = 41 intersect select name from person", "'Ann'; 'Cy'; 'Di'"},
		{"select name from person except select name from town", "'Ann'; 'Bo'; 'Cy'; 'Di'"},
		{"select null from town union select id from town", "null; 1; 2; 3"},
		{"select 1 / (id - 2) from town where id <> 2", "-1; 1"},
		{"select name from town where id = (1)", "'Oslo'"},
		{"select ((id)) from town where ((id = 1))", "1"},
		{"select id from town -- all\nwhere id = 1", "1"},
		{"select 'it''s' from town where id = 1", "'it''s'"},
		{"select name from town as t where id = any (select town from person as p where p.name <> t.name group by town having count(*) = (1 + 2))", "'Oslo'"},
		{"select t.name from town as t where 2 < (1)", ""},
		{"(select id from town) except (select 2 from town)", "1; 3"},
		{"select id from town where (id) in ((select 1 from town))", "1"},
		// Queries within queries within: columns two queries further out, and of a group around.
		{"select id from town where exists (select 1 from person where exists (select 1 from town as t where t.id = town.id + 1 and person.town = t.id))", "1"},
		{"select town from person group by town having exists (select 1 from town as t where id = town and exists (select 1 from person where town = t.id and age = 41))", "1"},
		{"select town from person group by town having count(*) > all (select id from town where id < town) and town = any (select max(town) from town)", "1"},
		{"select id from town where id < any (select count(*) + id from person where town = id group by age)", "1; 2"},
	} {
		if got, met := told(c[0]); got != c[1] || met != api.OK {
			t.Errorf("%q answers %q, %d, want %q", c[0], got, met, c[1])
		}
	}
}

func TestFunctionsThatMeetErrors(t *testing.T) {
	for _, c := range []struct {
		query string
		want  api.Errno
	}{
		{"select 9223372036854775807 + 1 from town", api.ErrOverflow},
		{"select sum(9223372036854775807) from town", api.ErrOverflow},
		{"select 1 / (id - 2) from town", api.ErrDivide},
		{"select id from town where id = 2 or 1 / (id - 2) = 1", api.ErrDivide},
		{"select id from town where id = 5 and 1 / 0 = 1", api.ErrDivide},
		{"select id from town where 1 / 0 = 9223372036854775807 + 1", api.ErrOverflow},
		{"select id from town where 9223372036854775807 * 2 < 1 / 0", api.ErrOverflow},
		{"select id from town where 1 / 0 = 1 and id * 9223372036854775807 = 1", api.ErrOverflow},
		{"select id from town where not 1 / 0 is not null", api.ErrDivide},
		{"select id from town where 1 / 0 in (select x from none)", api.ErrDivide},
		{"select id from town where 1 not in (select 1 % 0 from person)", api.ErrDivide},
		{"select id from town where 1 / 0 = all (select -age - 9223372036854775807 from person)", api.ErrOverflow},
		{"select id from town where exists (select 1 / (id - 3) from person)", api.ErrDivide},
		{"select count(1 / (id - 2)) from town", api.ErrDivide},
	} {
		if got, met := told(c.query); got != "" || met != c.want {
			t.Errorf("%q answers %q, %d, want the error %d", c.query, got, met, c.want)
		}
	}
}

// What two selections make of one place must not be shared: each counts for itself.
func TestCheckedAnew(t *testing.T) {
	const query = "select count(*), sum(age) from person union all select max(town), count(age) from person"
	first, _ := told(query)
	again, _ := told(query)
	if first != "2,4; 5,142" || again != first {
		t.Errorf("%q answers %q, then %q", query, first, again)
	}
}
