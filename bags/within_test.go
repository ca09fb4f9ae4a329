package bags_test

import (
	"cmp"
	"slices"
	"strings"
	"testing"

	"bags/api"
	"bags/plain"
)

// some has values of which a condition on i picks a few: each is of the bit 1, 2, 4 or 8.
const some = "table one a int\nrow 1\ntable some i int n int s text\nrow 1 1 'a'\nrow 2 2 'b'\nrow 4 null null\nrow 8 2 'b'\ntable none x int\n"

// chosen is the rows of some whose bits are in a number, as a query of one column, and its values.
func chosen(column string, bits int) (string, []string) {
	all := []string{"1", "2", "null", "2"}
	if column == "s" {
		all = []string{"'a'", "'b'", "null", "'b'"}
	}
	conds, values := []string{"i = 0"}, []string(nil)
	for at, bit := range []string{"1", "2", "4", "8"} {
		if bits>>at&1 == 1 {
			conds, values = append(conds, "i = "+bit), append(values, all[at])
		}
	}
	return "select " + column + " from some where " + strings.Join(conds, " or "), values
}

// compared is the truth of a comparison: 0 false, 1 unknown, 2 true.
func compared(a, sign, b string) int {
	if a == "null" || b == "null" {
		return 1
	}
	order := cmp.Compare(a, b) // all numbers here are of one digit
	if order < 0 && strings.Contains(sign, "<") || order == 0 && strings.Contains(sign, "=") || order > 0 && strings.Contains(sign, ">") {
		return 2
	}
	return 0
}

// truthOf is the truth of a condition: 2 if the row stays, 0 if it stays with the negation, else 1.
func truthOf(t *testing.T, data, cond string) int {
	t.Helper()
	var stays [2]int
	for i, query := range []string{"select a from one where " + cond, "select a from one where not (" + cond + ")"} {
		_, rows, kind, _ := plain.Run(data, query, nil)
		if kind != 0 {
			t.Fatalf("P13: %q tells the kind %d", query, kind)
		}
		stays[i] = len(rows)
	}
	return 1 + stays[0] - stays[1]
}

func TestTruthsOfExists(t *testing.T) {
	for bits := range 16 {
		q, values := chosen("n", bits)
		want := 0
		if len(values) > 0 { // a row of null is a row
			want = 2
		}
		if got := truthOf(t, some, "exists ("+q+")"); got != want {
			t.Errorf("P13: the truth of exists is %d for %q, want %d", got, values, want)
		}
	}
}

func TestTruthsOfAnyAndAll(t *testing.T) {
	for column, sides := range map[string][]string{"n": {"0", "1", "2", "3", "null"}, "s": {"''", "'a'", "'b'", "'c'", "null"}} {
		for bits := range 16 {
			q, values := chosen(column, bits)
			for _, left := range sides {
				for _, sign := range []string{"=", "<>", "<", "<=", ">", ">="} {
					greatest, least := 0, 2
					for _, v := range values {
						greatest, least = max(greatest, compared(left, sign, v)), min(least, compared(left, sign, v))
					}
					if got := truthOf(t, some, left+" "+sign+" any ("+q+")"); got != greatest {
						t.Errorf("P13: the truth of %s %s any is %d for %q, want %d", left, sign, got, values, greatest)
					}
					if got := truthOf(t, some, left+" "+sign+" all ("+q+")"); got != least {
						t.Errorf("P13: the truth of %s %s all is %d for %q, want %d", left, sign, got, values, least)
					}
				}
			}
		}
	}
}

func TestTruthsOfIn(t *testing.T) {
	for column, sides := range map[string][]string{"n": {"1", "2", "3", "null"}, "s": {"'a'", "'b'", "'c'", "null"}} {
		for bits := range 16 {
			q, values := chosen(column, bits)
			for _, left := range sides {
				want := 0
				switch {
				case left != "null" && slices.Contains(values, left):
					want = 2
				case len(values) > 0 && (left == "null" || slices.Contains(values, "null")):
					want = 1
				}
				if got := truthOf(t, some, left+" in ("+q+")"); got != want {
					t.Errorf("P13: the truth of %s in is %d for %q, want %d", left, got, values, want)
				}
				if got := truthOf(t, some, left+" not in ("+q+")"); got != 2-want {
					t.Errorf("P13: the truth of %s not in is %d for %q, want %d", left, got, values, 2-want)
				}
			}
		}
	}
}

func TestExists(t *testing.T) {
	tellAll(t, "P13", towns, []told{
		{"select id from town where exists (select * from person)", "id", "1; 2; 3", api.OK},
		{"select id from town where exists (select * from none)", "id", "", api.OK},
		{"select id from town where not exists (select * from none)", "id", "1; 2; 3", api.OK},
		{"select id from town where exists (select null from person where town = id)", "id", "1; 2", api.OK},
		{"select id from town where exists (select 1 from person where age = null)", "id", "", api.OK},
		{"select id from town where exists (select count(*) from none)", "id", "1; 2; 3", api.OK},
		{"select id from town where exists (select count(*) from none group by x)", "id", "", api.OK},
		{"select id from town where exists (select town from person where town = id group by town having count(*) > 1)", "id", "1", api.OK},
		{"select id from town where exists (select id from person except select town from person)", "id", "3", api.OK},
		{"select id from town where exists (select 1 / 0 from person)", "", "", api.ErrDivide},
		{"select id from town where exists (select 1 / 0 from none)", "id", "", api.OK},
		{"select id from town where exists (select 1 from person where 1 / (id - 3) = 7)", "", "", api.ErrDivide},
		{"select id from town where not exists (select sum(9223372036854775807) from person where town = id)", "", "", api.ErrOverflow},
		{"select x from none where exists (select nobody from person)", "", "", api.ErrScope},
		{"select x from none where exists (select -name from person)", "", "", api.ErrType},
	})
}

func TestAny(t *testing.T) {
	tellAll(t, "P13", towns, []told{
		{"select name from person where age < any (select age from person)", "name", "'Ann'; 'Di'", api.OK},
		{"select id from town where id <> any (select town from person)", "id", "1; 2; 3", api.OK},
		{"select id from town where id > any (select town from person)", "id", "2; 3", api.OK},
		{"select id from town where not id > any (select town from person)", "id", "", api.OK}, // with 1 it is unknown, for the null
		{"select id from town where name = any (select name from person)", "id", "", api.OK},
		{"select name from person as p where age < any (select age from person as q where q.town = p.town)", "name", "'Ann'", api.OK},
		{"select id from town where id + 1 >= any (select count(*) from person where town = id)", "id", "2; 3", api.OK},
		{"select id from town where null = any (select x from none) or null = any (select id from town)", "id", "", api.OK},
		{"select id from town where not null = any (select x from none)", "id", "1; 2; 3", api.OK},
		{"select id from town where 1 = any (select 1 / (town - 2) from person)", "", "", api.ErrDivide},
		{"select id from town where 1 = any (select 1 / 0 from none)", "id", "", api.OK},
		{"select id from town where 1 / (id - 3) = any (select x from none)", "", "", api.ErrDivide},
		{"select id from town where 1 = any (select id, name from town)", "", "", api.ErrType},
		{"select id from town where 1 = any (select name from none, town)", "", "", api.ErrType},
	})
}

func TestAll(t *testing.T) {
	tellAll(t, "P13", towns, []told{
		{"select id from town where id <= all (select id from town)", "id", "1", api.OK},
		{"select id from town where id < all (select age from person)", "id", "", api.OK}, // one age is null
		{"select id from town where id < all (select age from person where age > 0)", "id", "1; 2; 3", api.OK},
		{"select id from town where not id < all (select age - 28 from person where age > 0)", "id", "2; 3", api.OK},
		{"select id from town where not id = all (select town from person)", "id", "1; 2; 3", api.OK},
		{"select name from person as p where age = all (select age from person as q where q.town = p.town)", "name", "'Di'", api.OK},
		{"select id from town where null = all (select x from none)", "id", "1; 2; 3", api.OK},
		{"select id from town where name > all (select name from person) and not name < all (select name from person)", "id", "1; 2", api.OK},
		{"select id from town where 9 = all (select 1 / (town - 2) from person)", "", "", api.ErrDivide},
		{"select id from town where 9 = all (select 1 / 0 from none)", "id", "1; 2; 3", api.OK},
		{"select id from town where 9223372036854775807 + id > all (select x from none)", "", "", api.ErrOverflow},
		{"select id from town where 1 = all (select * from person)", "", "", api.ErrType},
	})
}

func TestIn(t *testing.T) {
	tellAll(t, "P13", towns, []told{
		{"select name from person where town in (select id from town where name = 'Oslo')", "name", "'Ann'; 'Bo'; 'Bo'", api.OK},
		{"select name from person where town in (select id from town)", "name", "'Ann'; 'Bo'; 'Bo'; 'Cy'", api.OK},
		{"select name from person where name in (select name from person as q where q.age < person.age)", "name", "", api.OK},
		{"select id from town where id in (select count(*) from person where town = id)", "id", "", api.OK},
		{"select id from town where id in (select max(town) from person union select 3 from none union all select 1 from town)", "id", "1; 2", api.OK},
		{"select id from town where id in (select x from none)", "id", "", api.OK},
		{"select id from town where not id in (select x from none)", "id", "1; 2; 3", api.OK},
		{"select id from town where not id in (select town from person)", "id", "", api.OK},
		{"select id from town where name in (select t.name from town as t)", "id", "1; 2", api.OK},
		{"select id from town where 1 in (select 1 % (id - 2) from person)", "", "", api.ErrDivide},
		{"select id from town where 1 / 0 in (select x from none)", "", "", api.ErrDivide},
		{"select id from town where 1 in (select 1 / 0 from none)", "id", "", api.OK},
		{"select id from town where id in (select name from town)", "", "", api.ErrType},
	})
}

func TestNotIn(t *testing.T) {
	tellAll(t, "P13", towns, []told{
		{"select name from person where town not in (select id from town where name = 'Oslo')", "name", "'Cy'", api.OK},
		{"select id from town where id not in (select 2 from person)", "id", "1; 3", api.OK},
		{"select id from town where id not in (select x from none)", "id", "1; 2; 3", api.OK},
		{"select name from person where town not in (select x from none)", "name", "'Ann'; 'Bo'; 'Bo'; 'Cy'; 'Di'", api.OK},
		{"select id from town where id not in (select null from town)", "id", "", api.OK},
		{"select id from town where not id not in (select town from person)", "id", "1; 2", api.OK},
		{"select name from person as p where age not in (select age from person as q where q.town <> p.town and q.age > 0)", "name", "'Ann'; 'Bo'; 'Bo'; 'Di'", api.OK},
		{"select id from town where id not in (select 1 / (town - 1) from person)", "", "", api.ErrDivide},
		{"select id from town where id not in (select 1 / 0 from none)", "id", "1; 2; 3", api.OK},
		{"select id from town where -id - 9223372036854775807 not in (select x from none)", "", "", api.ErrOverflow},
		{"select id from town where id not in (select id, id from town)", "", "", api.ErrType},
	})
}

// A query within sees the values of the row, or group, of which the condition is looked at, and those further out.
func TestValuesAround(t *testing.T) {
	tellAll(t, "P13", towns, []told{
		{"select id from town where exists (select 1 from person where exists (select 1 from town as t where t.id = town.id + 1 and person.town = t.id))", "id", "1", api.OK},
		{"select t.id, p.name from town as t, person as p where exists (select 1 from town where id = t.id and id = p.town and name < p.name)", "id, name", "", api.OK},
		{"select t.id, p.name from town as t, person as p where exists (select 1 from town where id = t.id and id = p.town and name > p.name)", "id, name", "1,'Ann'; 1,'Bo'; 1,'Bo'; 2,'Cy'", api.OK},
		{"select count(*), min(name) from person where town in (select id from town where name = 'Oslo' and age > 30)", "?, ?", "2,'Bo'", api.OK},
		{"select town from person group by town having exists (select 1 from town as t where id = town and exists (select 1 from person where town = t.id and age = 41))", "town", "1", api.OK},
		{"select town from person group by town having count(*) > all (select id from town where id < town) and town = any (select max(town) from town)", "town", "1", api.OK},
		{"select town, age from person group by town, age having max(name) in (select name from person as q where q.town = person.town)", "town, age", "1,30; 1,41; 2,null", api.OK},
		{"select town from person group by town having not exists (select 1 from town where id = person.town)", "town", "null", api.OK},
		{"select age from person group by age having age not in (select age from person as q where q.town = 1)", "age", "", api.OK},
		{"select id from town where id < any (select count(*) + id from person where town = id group by age)", "id", "1; 2", api.OK},
		{"select id from town where 3 = any (select sum(id) from person where age is not null and town = 1)", "id", "1", api.OK},
		{"select id from town where id = any (select town from person group by town having count(*) > all (select 1 from none as n where n.x = id))", "id", "1; 2", api.OK},
		{"select id from town where exists (select 1 from person where town = id union select 1 from person where town = id - 1)", "id", "1; 2; 3", api.OK},
		{"select id from town where exists (select town from person intersect all select id from none) or id in (select id from town except all select 2 from town)", "id", "1; 3", api.OK},
	})
}

// An error of a query within is one of the condition in which it stands, for the rows of which that is looked at.
func TestErrorsWithin(t *testing.T) {
	tellAll(t, "P13", towns, []told{
		// Where no condition is looked at, nothing is asked.
		{"select x from none where exists (select 1 / 0 from town)", "x", "", api.OK},
		{"select x from none where 1 / 0 in (select 1 / 0 from town)", "x", "", api.OK},
		{"select town from person where age > 99 group by town having exists (select 1 / 0 from town)", "town", "", api.OK},
		{"select id from town where id in (select town from person where age > 99 group by town having 1 = all (select 1 / 0 from town))", "id", "", api.OK},
		{"select id from town where exists (select 1 from none where exists (select 1 / 0 from town))", "id", "", api.OK},
		// All of a condition is looked at, whatever the truth of the rest.
		{"select id from town where id = 9 and exists (select 1 / (id - 3) from person)", "", "", api.ErrDivide},
		{"select id from town where id < 9 or 1 in (select 1 / (id - 3) from person)", "", "", api.ErrDivide},
		{"select id from town where null = 1 and 1 not in (select 1 / (id - 1) from person)", "", "", api.ErrDivide},
		{"select id from town where 1 = any (select 1 from person where town = 1 or 1 / (id - 2) = 1)", "", "", api.ErrDivide},
		{"select id from town where 1 = any (select 1 / (town - 2) from person where age is null or age = 30)", "", "", api.ErrDivide},
		{"select id from town where id in (select 1 from town) and exists (select 1 from town where exists (select 1 / (t.id - 3) from town as t))", "", "", api.ErrDivide},
		// The least of all that were met.
		{"select id from town where 1 / 0 = all (select -age - 9223372036854775807 from person)", "", "", api.ErrOverflow},
		{"select id from town where 9223372036854775807 + id = all (select 1 / 0 from person)", "", "", api.ErrOverflow},
		{"select id from town where exists (select 1 / (id - 1) from person) or exists (select id + 9223372036854775805 from person)", "", "", api.ErrOverflow},
		{"select id from town where 1 in (select 1 / 0 from person union all select -age - 9223372036854775807 from person)", "", "", api.ErrOverflow},
		{"select id from town where exists (select 1 / (id - 1) from person where id = 1 union select id + 9223372036854775805 from person)", "", "", api.ErrOverflow},
		// Within, the first step that meets errors tells its own.
		{"select id from town where exists (select 9223372036854775807 + age from person where 1 / 0 = 1)", "", "", api.ErrDivide},
		{"select id from town where exists (select 1 / (id - 1), 9223372036854775805 + id from person where id < 3)", "", "", api.ErrDivide},
		{"select id from town where exists (select 9223372036854775807 + town from person group by town having 1 in (select 1 / 0 from town))", "", "", api.ErrDivide},
		// So it is around: where, then what is counted and so on, then having, then the items.
		{"select 9223372036854775807 + id from town where exists (select 1 / 0 from person)", "", "", api.ErrDivide},
		{"select 1 / 0 from town where 1 = all (select 9223372036854775807 + age from person)", "", "", api.ErrOverflow},
		{"select sum(9223372036854775807 + id) from town where 1 in (select 1 / 0 from person)", "", "", api.ErrDivide},
		{"select sum(1 / (id - 1)) from town group by name having exists (select 9223372036854775807 + 1 from person)", "", "", api.ErrDivide},
		{"select 9223372036854775807 + id from town group by id having 1 not in (select 1 / 0 from person)", "", "", api.ErrDivide},
		{"select 1 / 0 from town group by id having id > any (select 9223372036854775807 + age from person)", "", "", api.ErrOverflow},
		{"select id from town group by id having max(1 / (id - 1)) in (select 9223372036854775807 + age from person)", "", "", api.ErrDivide},
	})
}

// chain is a query with so many others within, each within the one ahead of it.
func chain(depth int, query func(i int) string) string {
	text := ""
	for i := range depth {
		text += query(i) + " exists("
	}
	return text + strings.TrimSuffix(strings.TrimSuffix(query(depth), " where"), " and") + strings.Repeat(")", depth)
}

// Gone through row by row, rows would be without number.
func TestDeepQueriesEnd(t *testing.T) {
	alone := chain(12, func(int) string { return "select 1 from t where" })
	linked := chain(8, func(i int) string {
		if i == 0 {
			return "select a.a from t as a where"
		}
		return "select 1 from t as " + string(rune('a'+i)) + " where " + string(rune('a'+i-1)) + ".a<" + string(rune('a'+i)) + ".a and"
	})
	wide := chain(5, func(int) string { return "select t.a from t,t as x,t as y where t.a<>x.a and" })
	tellAll(t, "P1", twelve, []told{
		{alone, "?", "1; 1; 1; 1; 1; 1; 1; 1; 1; 1; 1; 1", api.OK},
		{linked, "a", "1; 2; 3; 4", api.OK},
		{"select distinct 1 from t where t.a in (" + wide + ")", "?", "1", api.OK},
	})
}
