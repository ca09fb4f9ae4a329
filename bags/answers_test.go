package bags_test

import (
	"strings"
	"testing"

	"bags/api"
	"bags/plain"
)

// told is a query with its columns and rows, written as in the document's examples, or its error.
type told struct {
	query, columns, rows string
	kind                 api.Errno
}

func tellAll(t *testing.T, promise, data string, cases []told) {
	t.Helper()
	for _, c := range cases {
		columns, rows, kind, at := plain.Run(data, c.query, nil)
		if api.Errno(kind) != c.kind || at != 0 {
			t.Errorf("%s: Query(%q) tells the kind %d at %d, want %d", promise, c.query, kind, at, c.kind)
		}
		if strings.Join(columns, ", ") != c.columns || strings.Join(rows, "; ") != c.rows {
			t.Errorf("%s: Query(%q) = %q, %q, want %q, %q", promise, c.query, columns, rows, c.columns, c.rows)
		}
	}
}

// The examples of the document.
func TestExamples(t *testing.T) {
	tellAll(t, "the examples", towns, []told{
		{"select * from town", "id, name", "1,'Oslo'; 2,'Rome'; 3,null", api.OK},
		{"select name from person", "name", "'Ann'; 'Bo'; 'Bo'; 'Cy'; 'Di'", api.OK},
		{"select distinct name from person", "name", "'Ann'; 'Bo'; 'Cy'; 'Di'", api.OK},
		{"select name, age from person where age > 30", "name, age", "'Bo',41; 'Bo',41", api.OK},
		{"select name from person where age <> 30", "name", "'Bo'; 'Bo'", api.OK},
		{"select name from person where not age <> 30", "name", "'Ann'; 'Di'", api.OK},
		{"select name from person where age is null or town is null", "name", "'Cy'; 'Di'", api.OK},
		{"select age + 1 as next from person where name = 'Ann'", "next", "31", api.OK},
		{"select 7 / 2, 7 % 2, -7 / 2, (-7) % 2, 1 - 2 - 3, 2 + 3 * 4 from none", "?, ?, ?, ?, ?, ?", "", api.OK},
		{"select 7 / 2, 7 % 2, -7 / 2, (-7) % 2, 1 - 2 - 3, 2 + 3 * 4, null + 1 from town where id = 1", "?, ?, ?, ?, ?, ?, ?", "3,1,-3,-1,-4,14,null", api.OK},
		{"select p.name, t.name from person as p, town as t where p.town = t.id", "name, name", "'Ann','Oslo'; 'Bo','Oslo'; 'Bo','Oslo'; 'Cy','Rome'", api.OK},
		{"select name from person, town", "", "", api.ErrScope},
		{"select count(*), count(age), sum(age), min(age), max(name) from person", "?, ?, ?, ?, ?", "5,4,142,30,'Di'", api.OK},
		{"select count(*), count(x), sum(x), min(x) from none", "?, ?, ?, ?", "0,0,null,null", api.OK},
		{"select count(*), x from none group by x", "?, x", "", api.OK},
		{"select town, count(*) from person group by town", "town, ?", "null,1; 1,3; 2,1", api.OK},
		{"select town, sum(age) as s from person group by town having count(*) > 1", "town, s", "1,112", api.OK},
		{"select age from person group by town", "", "", api.ErrScope},
		{"select name from person where count(*) > 1", "", "", api.ErrScope},
		{"select name from town where exists (select 1 from person where town = id)", "name", "'Oslo'; 'Rome'", api.OK},
		{"select name from town where not exists (select 1 from person where town = id)", "name", "null", api.OK},
		{"select name from town where id in (select town from person)", "name", "'Oslo'; 'Rome'", api.OK},
		{"select name from town where id not in (select town from person)", "name", "", api.OK},
		{"select name from town where id not in (select town from person where town is not null)", "name", "null", api.OK},
		{"select name from person where age >= all (select age from person where age is not null)", "name", "'Bo'; 'Bo'", api.OK},
		{"select name from person where age > any (select age from person)", "name", "'Bo'; 'Bo'", api.OK},
		{"select id from town where 1 = all (select x from none)", "id", "1; 2; 3", api.OK},
		{"select name from town union select name from person", "name", "null; 'Ann'; 'Bo'; 'Cy'; 'Di'; 'Oslo'; 'Rome'", api.OK},
		{"select name from person union all select name from person where age = 41", "name", "'Ann'; 'Bo'; 'Bo'; 'Bo'; 'Bo'; 'Cy'; 'Di'", api.OK},
		{"select name from person intersect all select name from person where age = 41", "name", "'Bo'; 'Bo'", api.OK},
		{"select name from person except all select name from person where town = 1 and age = 41 intersect select name from person", "name", "'Ann'; 'Cy'; 'Di'", api.OK},
		{"select name from person except select name from town", "name", "'Ann'; 'Bo'; 'Cy'; 'Di'", api.OK},
		{"select id from town union select name from town", "", "", api.ErrType},
		{"select id, name from town union select id from town", "", "", api.ErrType},
		{"select null from town union select id from town", "?", "null; 1; 2; 3", api.OK},
		{"select 9223372036854775807 + 1 from town", "", "", api.ErrOverflow},
		{"select sum(9223372036854775807) from town", "", "", api.ErrOverflow},
		{"select 1 / (id - 2) from town", "", "", api.ErrDivide},
		{"select 1 / (id - 2) from town where id <> 2", "?", "-1; 1", api.OK},
		{"select id from town where id = 2 or 1 / (id - 2) = 1", "", "", api.ErrDivide},
		{"select id + name from town", "", "", api.ErrType},
		{"select nobody from town", "", "", api.ErrScope},
		{"select town.id from town as t", "", "", api.ErrScope},
		{"select id from town as t, town as t", "", "", api.ErrScope},
		{"select name from town where id = (1)", "name", "'Oslo'", api.OK},
		{"select ((id)) from town where ((id = 1))", "id", "1", api.OK},
		{"select id from town where id = (select 1 from none)", "", "", api.ErrSyntax},
		{"select * from", "", "", api.ErrSyntax},
		{"select id from town where", "", "", api.ErrSyntax},
		{"select id from town -- all\nwhere id = 1", "id", "1", api.OK},
		{"select 'it''s' from town where id = 1", "?", "'it''s'", api.OK},
		{"select name from town as t where id = any (select town from person as p where p.name <> t.name group by town having count(*) = (1 + 2))", "name", "'Oslo'", api.OK},
		{"select t.name from town as t where 2 < (1)", "name", "", api.OK},
		{"(select id from town) except (select 2 from town)", "id", "1; 3", api.OK},
		{"select id from town where (id) in ((select 1 from town))", "id", "1", api.OK},
	})
	if columns, rows, kind, at := plain.Run(towns, "select id # from town", nil); columns != nil || rows != nil || api.Errno(kind) != api.ErrLex || at != 10 {
		t.Errorf("the examples: %q, %q, the kind %d at %d, want ErrLex at 10", columns, rows, kind, at)
	}
}
