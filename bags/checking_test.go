package bags_test

import (
	"strings"
	"testing"

	"bags/api"
	"bags/bags"
)

// towns is the tables of the document's examples.
const towns = "table town id int name text\nrow 1 'Oslo'\nrow 2 'Rome'\nrow 3 null\ntable person name text town int age int\nrow 'Ann' 1 30\nrow 'Bo' 1 41\nrow 'Cy' 2 null\nrow 'Di' null 30\nrow 'Bo' 1 41\ntable none x int\n"

// judged is a query and its error; OK: none that checking tells, as what it answers is not asked here.
type judged struct {
	query string
	kind  api.Errno
}

func checkAll(t *testing.T, promise, data string, cases []judged) {
	t.Helper()
	d, err := bags.Open(data)
	if d == nil || err != nil {
		t.Fatal(err)
	}
	for _, c := range cases {
		r, err := d.Query(c.query)
		kind, at := kindAndPlace(t, err)
		if kind > api.ErrType {
			kind = api.OK
		}
		if (r == nil) != (err != nil) || kind != c.kind || at != 0 {
			t.Errorf("%s: Query(%q) = %v, %v, want the kind %d", promise, c.query, r, err, c.kind)
		}
	}
}

func TestSources(t *testing.T) {
	checkAll(t, "P6", towns, []judged{
		{"select 1 from town", api.OK},
		{"select 1 from nobody", api.ErrScope},
		{"select 1 from Town", api.ErrScope},
		{"select 1 from town, nobody", api.ErrScope},
		{"select 1 from town as nobody, nobody", api.ErrScope},
		{"select 1 from town where exists (select 1 from nobody)", api.ErrScope},
		{"select 1 from town as t where exists (select 1 from t)", api.ErrScope},
		{"select 1 from town union select 1 from nobody", api.ErrScope},
		{"select 1 from town, person, none", api.OK},
		{"select 1 from town, person, none, town as t", api.ErrScope},
		{"select 1 from town as a, town as b, town as c", api.OK},
		{"select 1 from town as a, town as b, town as c, town as d", api.ErrScope},
		{"select 1 from town as a, town as b, town as c, town as d, town as e", api.ErrScope},
		{"select 1 from town as a, town as b, town as c where exists (select 1 from town as d, town as e, town as f)", api.OK},
		{"select 1 from town as a, town as b, town as c union select 1 from town as d, town as e, town as f", api.OK},
		{"select 1 from town where exists (select 1 from none as a, none as b, none as c, none as d)", api.ErrScope},
		{"select 1 from town, town", api.ErrScope},
		{"select 1 from town as t, town", api.OK},
		{"select 1 from town as t, town as t", api.ErrScope},
		{"select 1 from town as t, person as t", api.ErrScope},
		{"select 1 from town as person, person", api.ErrScope},
		{"select 1 from town as person, person as town", api.OK},
		{"select 1 from person, none, town as person", api.ErrScope},
		{"select 1 from town as town", api.OK},
		{"select 1 from town where exists (select 1 from town)", api.OK},
		{"select 1 from town union select 1 from town", api.OK},
	})
}

func TestColumnsOfOneQuery(t *testing.T) {
	checkAll(t, "P6", towns, []judged{
		{"select id, name from town", api.OK},
		{"select Id from town", api.ErrScope},
		{"select age from town", api.ErrScope},
		{"select town from town", api.ErrScope},
		{"select town.id from town", api.OK},
		{"select town.age from town", api.ErrScope},
		{"select t.id from town as t", api.OK},
		{"select town.id from town as t", api.ErrScope},
		{"select id.town from town", api.ErrScope},
		{"select id as n from town where n = 1", api.ErrScope},
		{"select id as n, n from town", api.ErrScope},
		{"select name from town, person", api.ErrScope},
		{"select id, age, town from town, person", api.OK},
		{"select town.name, person.name, town from town, person", api.OK},
		{"select person.id from town, person", api.ErrScope},
		{"select town.age from town as person, person as town", api.OK},
		{"select person.age from town as person, person as town", api.ErrScope},
		{"select id from town as a, town as b", api.ErrScope},
		{"select * from town as a, town as b", api.OK},
		{"select 1 from none, town where nobody = 1", api.ErrScope},
		{"select 1 from none, town where 1 = 1 or not -nobody * 2 is null", api.ErrScope},
		{"select 1 + (2 * -nobody) from town", api.ErrScope},
		{"select 1, 2, nobody from town", api.ErrScope},
		{"select x from none union select id from none", api.ErrScope},
		{"select x from none union select none.x from town", api.ErrScope},
		{"(select id from town) except all ((select x from none) intersect select id from none)", api.ErrScope},
	})
}

func TestColumnsOfQueriesAround(t *testing.T) {
	const inTown, inPerson = "select 1 from town where exists ", "select 1 from person where exists "
	checkAll(t, "P6", towns, []judged{
		{inTown + "(select id from none)", api.OK},
		{inTown + "(select town.id from none)", api.OK},
		{inTown + "(select 1 from none where x = id)", api.OK},
		{inTown + "(select 1 from none where exists (select 1 from none where id = 1))", api.OK},
		{inTown + "(select age from none)", api.ErrScope},
		{inTown + "(select town.age from none)", api.ErrScope},
		{inTown + "(select 1 from none) and x = 1", api.ErrScope},
		{inTown + "(select 1 from none) and none.x = 1", api.ErrScope},
		{inTown + "(select 1 from none union select id from none)", api.OK},
		{inTown + "(select 1 from none union select x from person)", api.ErrScope},
		{inTown + "(select 1 from none where exists (select age from person) and age = 1)", api.ErrScope},
		{inTown + "(select 1 from none) union select id from none", api.ErrScope},
		{"select 1 from town where id in (select x from none where x = id)", api.OK},
		{"select 1 from town where x in (select x from none)", api.ErrScope},
		{"select 1 from town where id < any (select x from none where x = town.id)", api.OK},
		{"select 1 from town where x < all (select x from none)", api.ErrScope},
		{"select 1 from town as a, town as b where exists (select id from town)", api.OK},
		{"select 1 from town as a, town as b where exists (select id from none)", api.ErrScope},
		{"select 1 from town as a, town as b where exists (select b.id from none)", api.OK},
		{inTown + "(select 1 from person as a, person as b where name = 'x')", api.ErrScope},
		{inPerson + "(select 1 from town where town = id)", api.OK},
		{inPerson + "(select 1 from town where town.town = id)", api.ErrScope},
		{inTown + "(select 1 from none as town where town.id = 1)", api.ErrScope},
		{inTown + "(select 1 from none as town where town.x = id)", api.OK},
		{inTown + "(select 1 from person as town where town.name = name)", api.OK},
	})
	// Two columns of one name: the type shows which one is meant.
	const data = "table t a int b int\ntable u a text b int"
	checkAll(t, "P6", data, []judged{
		{"select 1 from t where exists (select 1 from u where a = 'x')", api.OK},
		{"select 1 from t where exists (select 1 from u where a = 1)", api.ErrType},
		{"select 1 from t where exists (select 1 from u where t.a = 1)", api.OK},
		{"select 1 from u where exists (select 1 from t where exists (select 1 from u as v where a = 'x'))", api.OK},
		{"select 1 from u where exists (select 1 from t where exists (select 1 from t as v where a = 'x'))", api.ErrType},
		{"select 1 from u as v where exists (select 1 from t as v where exists (select 1 from u where v.a = 1))", api.OK},
		{"select 1 from t as v where exists (select 1 from u as v where exists (select 1 from t where v.a = 1))", api.ErrType},
	})
}

func TestGroups(t *testing.T) {
	const around = "select 1 from person where exists "
	const grouped = "select 1 from person group by town having exists "
	checkAll(t, "P6", towns, []judged{
		{"select town, count(*) from person group by town", api.OK},
		{"select person.town from person group by town", api.OK},
		{"select town from person group by person.town", api.OK},
		{"select p.town from person as p group by person.town", api.ErrScope},
		{"select town + 1, -town from person group by town", api.OK},
		{"select age, town from person group by town, age", api.OK},
		{"select town from person group by town, town", api.OK},
		{"select age from person group by town", api.ErrScope},
		{"select town + age from person group by town", api.ErrScope},
		{"select sum(age), min(name), max(town), count(name) from person group by town", api.OK},
		{"select sum(age) + age from person group by town", api.ErrScope},
		{"select sum(id) from person group by town", api.ErrScope},
		{"select age, count(*) from person", api.ErrScope},
		{"select 1, count(*) from person", api.OK},
		{"select 1 + count(*) from person", api.OK},
		{"select -count(*) from person", api.OK},
		{"select 1 - -count(*), age from person", api.ErrScope},
		{"select a.id from town as a, town as b group by a.id", api.OK},
		{"select b.id from town as a, town as b group by a.id", api.ErrScope},
		{"select id from town as a, town as b group by a.id", api.ErrScope},
		{"select 1 from town as a, town as b group by id", api.ErrScope},
		{"select 1 from person group by nobody", api.ErrScope},
		{"select 1 from person group by town, id", api.ErrScope},
		{"select age as n from person group by n", api.ErrScope},
		{"select 1 from person where age = 1 group by town", api.OK},
		{"select * from person group by town", api.ErrScope},
		{"select * from none group by x", api.ErrScope},
		{"select distinct * from person", api.OK},
		{"select 1 from person group by town having town = 1", api.OK},
		{"select 1 from person group by town having age = 1", api.ErrScope},
		{"select 1 from person group by town having max(age) > town and not count(*) is null", api.OK},
		{"select 1 from person group by town having max(age) > age", api.ErrScope},
		{"select 1 from person group by town having age in (select x from none)", api.ErrScope},
		{"select 1 from person group by town having sum(age) in (select x from none)", api.OK},
		// Columns of queries around have one value in every group.
		{around + "(select age, count(*) from none)", api.OK},
		{around + "(select age from none group by x)", api.OK},
		{around + "(select 1 from none group by x having age = count(*))", api.OK},
		{around + "(select 1 from none group by age)", api.ErrScope},
		{around + "(select 1 from none group by person.age)", api.ErrScope},
		{around + "(select name from town group by id)", api.ErrScope},
		{around + "(select 1 from town group by id having name = 'x')", api.ErrScope},
		// A query within having sees what is behind group by, one within where sees all.
		{grouped + "(select town from none)", api.OK},
		{grouped + "(select person.town from none)", api.OK},
		{grouped + "(select age from none)", api.ErrScope},
		{grouped + "(select person.age from none)", api.ErrScope},
		{grouped + "(select sum(town) from none)", api.OK},
		{grouped + "(select sum(age) from none)", api.ErrScope},
		{grouped + "(select 1 from none where exists (select 1 from none where age = 1))", api.ErrScope},
		{grouped + "(select 1 from none where exists (select 1 from none where town = 1))", api.OK},
		{grouped + "(select age from person as p)", api.OK},
		{grouped + "(select 1 from none group by x having town = x)", api.OK},
		{"select 1 from person where exists (select age from none) group by town", api.OK},
		{"select count(*) from person where age in (select x + age from none)", api.OK},
		{around + "(select 1 from town group by id having exists (select age from none))", api.OK},
		// The innermost query that has it is the grouped one, though one further out has it too.
		{around + "(select 1 from town group by id having exists (select name from none))", api.ErrScope},
		{"select 1 from town as a, town as b group by a.id having exists (select id from none)", api.ErrScope},
		{"select 1 from town as a, town as b group by a.id having exists (select a.id from none)", api.OK},
	})
}

func TestAggregates(t *testing.T) {
	const within = "select 1 from person where exists "
	checkAll(t, "P6", towns, []judged{
		{"select count(*), count(x), sum(x), min(x), max(x) from none", api.OK},
		{"select 1 from none where count(*) > 1", api.ErrScope},
		{"select 1 from none where 1 < x + count(x)", api.ErrScope},
		{"select count(*) from none where max(x) is null", api.ErrScope},
		{"select 1 from none where min(x) in (select 1 from none) group by x", api.ErrScope},
		{"select sum(count(*)) from none", api.ErrScope},
		{"select count(1 + sum(x)) from none", api.ErrScope},
		{"select max(-min(x)) from none group by x", api.ErrScope},
		{"select 1 from none group by x having count(count(*)) = 1", api.ErrScope},
		{"select count(*) + sum(x) * max(x) from none", api.OK},
		{"select count(nobody) from none", api.ErrScope},
		{within + "(select count(*) from none)", api.OK},
		{within + "(select sum(age) from none)", api.OK},
		{within + "(select sum(age + x) from none)", api.OK},
		{within + "(select 1 from none where x = count(*))", api.ErrScope},
		{"select count(*) from person where exists (select age from none where sum(age) = 1)", api.ErrScope},
		{"select 1 from person group by town having exists (select 1 from none where count(*) = 1)", api.ErrScope},
		// What is counted in a query within makes no groups of the one around.
		{"select age from person where exists (select count(*) from none)", api.OK},
		{"select * from person where exists (select count(*) from none)", api.OK},
	})
}

func TestTypesOfExpressions(t *testing.T) {
	checkAll(t, "P7", towns, []judged{
		{"select id + 1, id - 1, id * 1, id / 1, id % 1, -id from town", api.OK},
		{"select name + 1 from town", api.ErrType},
		{"select 1 + name from town", api.ErrType},
		{"select name - 'x' from town", api.ErrType},
		{"select id * 'x' from town", api.ErrType},
		{"select 'x' / id from town", api.ErrType},
		{"select id % name from town", api.ErrType},
		{"select -name from town", api.ErrType},
		{"select -'1' from town", api.ErrType},
		{"select 1 + (2 - -(3 * name)) from town", api.ErrType},
		{"select null + 1, 1 + null, null * null, -null, id / null from town", api.OK},
		{"select null + name from town", api.ErrType},
		{"select sum(id), sum(null), sum(id + 1) from town", api.OK},
		{"select sum(name) from town", api.ErrType},
		{"select sum('1') from town", api.ErrType},
		{"select count(name) + count(*) + count(null) + sum(null) from town", api.OK},
		{"select min(name), max('x'), min(null) from town", api.OK},
		{"select min(id) + max(id) from town", api.OK},
		{"select min(name) + 1 from town", api.ErrType},
		{"select -max(name) from town", api.ErrType},
		{"select min(null) + 1 from town", api.OK},
		{"select count(name + 1) from town", api.ErrType},
		{"select min(-name) from town", api.ErrType},
		{"select 1 from town where -name is null", api.ErrType},
		{"select 1 from town where name is null and null is not null", api.OK},
	})
}

func TestTypesOfConditions(t *testing.T) {
	const where = "select 1 from town where "
	checkAll(t, "P7", towns, []judged{
		{where + "id = 1 and name <> 'x' and 1 < 2 and 'x' >= 'y'", api.OK},
		{where + "id = name", api.ErrType},
		{where + "name < 1", api.ErrType},
		{where + "1 >= 'x'", api.ErrType},
		{where + "1 = 1 or not (1 = 1 and id <> 'x')", api.ErrType},
		{where + "null = name and id <> null and null < null and null >= 'x'", api.OK},
		{where + "-null = name", api.ErrType},
		{where + "null + null = 'x'", api.ErrType},
		{where + "id in (select x from none) and id not in (select null from none)", api.OK},
		{where + "name in (select x from none)", api.ErrType},
		{where + "id not in (select name from person)", api.ErrType},
		{where + "null in (select name from person) and null in (select 1 from none)", api.OK},
		{where + "id in (select * from none)", api.OK},
		{where + "id in (select * from town)", api.ErrType},
		{where + "id in (select x, x from none)", api.ErrType},
		{where + "null not in (select x, x from none)", api.ErrType},
		{where + "id < any (select x from none) and name > all (select name from person)", api.OK},
		{where + "id < any (select name from person)", api.ErrType},
		{where + "name > all (select 1 from person)", api.ErrType},
		{where + "name > all (select null from person)", api.OK},
		{where + "id = all (select id, id from town as t)", api.ErrType},
		{where + "id = any (select null from none union select x from none)", api.OK},
		{where + "name = any (select null from none union select x from none)", api.ErrType},
		{where + "name = any (select x from none union select null from none)", api.ErrType},
		{where + "exists (select * from town, person)", api.OK},
		{where + "exists (select name + 1 from person)", api.ErrType},
		{where + "exists (select 1 from person where age = name)", api.ErrType},
		{"select 1 from person group by name having name > town", api.ErrScope},
		{"select 1 from person group by name having name = 1", api.ErrType},
		{"select 1 from person group by name having count(*) = min(age)", api.OK},
		{"select 1 from person group by name having count(*) = min(name)", api.ErrType},
		{"select 1 from person group by name having min(null) = name and min(null) = 1", api.OK},
		{"select 1 from person group by name having sum(null) = name", api.ErrType},
		{"select 1 from person group by name having count(name) = name", api.ErrType},
		{"select 1 from person group by name having max(name) in (select name from town)", api.OK},
		{"select 1 from person group by name having max(name) in (select id from town)", api.ErrType},
	})
}

func TestTypesOfQueriesPutTogether(t *testing.T) {
	cases := []judged{
		{"select id SIGN select age from person", api.OK},
		{"select id SIGN select name from person", api.ErrType},
		{"select id, name SIGN select id from town", api.ErrType},
		{"select id SIGN select id, name from town", api.ErrType},
		{"select id, name SIGN select * from town", api.OK},
		{"select id, name SIGN select name, town from person", api.ErrType},
		{"select id, name SIGN select town, town from person", api.ErrType},
		{"select * SIGN select * from person", api.ErrType},
		{"select null, name SIGN select id, null from town", api.OK},
		{"select null SIGN select null from town", api.OK},
		{"select null SIGN select id from town SIGN select name from town", api.ErrType},
		{"select id SIGN select null from town SIGN select name from town", api.ErrType},
		{"select null SIGN select null from town SIGN select name from town", api.OK},
		{"select null SIGN (select name from town SIGN select null from town)", api.OK},
		{"select 1 SIGN (select name from town SIGN select null from town)", api.ErrType},
		{"select 1 SIGN (select 2 from town SIGN select 3, 4 from town)", api.ErrType},
		{"select sum(null) SIGN select name from town", api.ErrType},
		{"select min(null) SIGN select name from town", api.OK},
	}
	for _, sign := range []string{"union", "intersect", "except", "union all", "intersect all", "except all"} {
		var list []judged
		for _, c := range cases {
			query := strings.Replace(c.query, "SIGN", "from town SIGN", 1)
			list = append(list, judged{strings.ReplaceAll(query, "SIGN", sign), c.kind})
		}
		checkAll(t, "P7", towns, list)
	}
}

func TestOneOfSeveralErrors(t *testing.T) {
	d, err := bags.Open(towns)
	if err != nil {
		t.Fatal(err)
	}
	for _, c := range []struct {
		query string
		kind  api.Errno
		at    int
	}{
		{strings.Repeat(" ", 400) + "select", api.ErrLex, 400},
		{"select nobody from nobody #", api.ErrLex, 26},
		{"select nobody from nobody where", api.ErrSyntax, 0},
		{"select id + name from town town", api.ErrSyntax, 0},
		{"select (select 1 from town) from town", api.ErrSyntax, 0},
		{"select 1 from town group by id + 1", api.ErrSyntax, 0},
		{"select " + strings.Repeat("(", 17) + "nobody" + strings.Repeat(")", 17) + " from nobody", api.ErrDeep, 0},
		{"select " + strings.Repeat("(", 17) + "-name" + strings.Repeat(")", 17) + " from town", api.ErrDeep, 0},
		{"select " + strings.Repeat("(", 16) + "-name" + strings.Repeat(")", 16) + " from town", api.ErrType, 0},
		{"select nobody + name from town", api.ErrScope, 0},
		{"select name + nobody from town", api.ErrScope, 0},
		{"select -name from town, nobody", api.ErrScope, 0},
		{"select id + name from town union select nobody from town", api.ErrScope, 0},
		{"select 1 from town where id = name and exists (select nobody from none)", api.ErrScope, 0},
		{"select id from town union select id, name from town except select count(count(*)) from town", api.ErrScope, 0},
		{"select -name from town where id in (select *, x from none)", api.ErrSyntax, 0},
		{"select -name, * from town", api.ErrSyntax, 0},
		{"select 1 / 0 + name from town", api.ErrType, 0},
		{"select 9223372036854775807 + 1 from nobody", api.ErrScope, 0},
	} {
		r, err := d.Query(c.query, 0)
		kind, at := kindAndPlace(t, err)
		if r != nil || kind != c.kind || at != c.at {
			t.Errorf("P1: Query(%q) = %v, %v, want the kind %d at %d", c.query, r, err, c.kind, c.at)
		}
	}
}

func TestNoTables(t *testing.T) {
	checkAll(t, "P6", "", []judged{
		{"select 1 from town", api.ErrScope},
		{"select -'x' from town", api.ErrScope},
	})
}

// The examples of the document whose answer is ErrScope or ErrType, and those of the others that checking must let pass.
func TestExamplesAreChecked(t *testing.T) {
	checkAll(t, "the examples", towns, []judged{
		{"select name from person, town", api.ErrScope},
		{"select age from person group by town", api.ErrScope},
		{"select name from person where count(*) > 1", api.ErrScope},
		{"select id from town union select name from town", api.ErrType},
		{"select id, name from town union select id from town", api.ErrType},
		{"select id + name from town", api.ErrType},
		{"select nobody from town", api.ErrScope},
		{"select town.id from town as t", api.ErrScope},
		{"select id from town as t, town as t", api.ErrScope},
		{"select p.name, t.name from person as p, town as t where p.town = t.id", api.OK},
		{"select count(*), count(age), sum(age), min(age), max(name) from person", api.OK},
		{"select town, sum(age) as s from person group by town having count(*) > 1", api.OK},
		{"select name from town where not exists (select 1 from person where town = id)", api.OK},
		{"select name from person where age >= all (select age from person where age is not null)", api.OK},
		{"select null from town union select id from town", api.OK},
		{"select name from town as t where id = any (select town from person as p where p.name <> t.name group by town having count(*) = (1 + 2))", api.OK},
		{"select id from town where (id) in ((select 1 from town))", api.OK},
	})
}
