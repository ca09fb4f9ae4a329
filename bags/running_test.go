package bags_test

import (
	"runtime"
	"strconv"
	"strings"
	"testing"

	"bags/api"
	"bags/bags"
	"bags/plain"
)

// edges has numbers at the ends of 64 bits, nulls, and rows that are there twice.
const edges = "table n a int b int\nrow 1 0\nrow 2 9223372036854775807\nrow 3 -9223372036854775808\nrow 4 null\ntable s x text y int\nrow 'b' 1\nrow null 1\nrow 'b' 1\nrow null null\nrow 'B' null\nrow null null\nrow '' -3\ntable none x int\n"

func TestExpressions(t *testing.T) {
	const one = " from n where a = 1"
	tellAll(t, "P8", edges, []told{
		{"select 7 + 5, 7 - 12, -7 * 5, a + 2 * 3" + one, "?, ?, ?, ?", "12,-5,-35,7", api.OK},
		{"select 7 / 2, 7 / -2, -7 / 2, -7 / -2, 0 / 5" + one, "?, ?, ?, ?, ?", "3,-3,-3,3,0", api.OK},
		{"select 7 % 2, 7 % -2, -7 % 2, (-7) % -2, 6 % -3" + one, "?, ?, ?, ?, ?", "1,1,-1,-1,0", api.OK},
		{"select 1 - 2 - 3, 100 / 10 / 5, 2 - (3 - 4), - -5, 7 - -1" + one, "?, ?, ?, ?, ?", "-4,2,3,5,8", api.OK},
		{"select null + 1, 1 - null, null * null, null / 1, 1 % null, -null" + one, "?, ?, ?, ?, ?, ?", "null,null,null,null,null,null", api.OK},
		{"select null / 0, null % 0, b / 0 from n where b is null", "?, ?, ?", "null,null,null", api.OK},
		{"select 0 / null, null * 9223372036854775807" + one, "?, ?", "null,null", api.OK},
		{"select 9223372036854775806 + 1, -9223372036854775807 - 1, 4611686018427387904 * -2" + one, "?, ?, ?", "9223372036854775807,-9223372036854775808,-9223372036854775808", api.OK},
		{"select 9223372036854775807 + 1" + one, "", "", api.ErrOverflow},
		{"select -9223372036854775807 - 2" + one, "", "", api.ErrOverflow},
		{"select 4611686018427387904 * 2" + one, "", "", api.ErrOverflow},
		{"select 3037000500 * 3037000500" + one, "", "", api.ErrOverflow},
		{"select 3037000499 * 3037000499" + one, "?", "9223372030926249001", api.OK},
		{"select b / -1 from n where a = 3", "", "", api.ErrOverflow},
		{"select -b from n where a = 3", "", "", api.ErrOverflow},
		{"select b * -1 from n where a = 3", "", "", api.ErrOverflow},
		{"select -1 * b from n where a = 3", "", "", api.ErrOverflow},
		{"select 0 - b from n where a = 3", "", "", api.ErrOverflow},
		{"select b % -1, b / 1, -(b + 1) from n where a = 3", "?, ?, ?", "0,-9223372036854775808,9223372036854775807", api.OK},
		{"select 9223372036854775807 + 1 - 1" + one, "", "", api.ErrOverflow},
		{"select 1 / 0" + one, "", "", api.ErrDivide},
		{"select 1 % 0" + one, "", "", api.ErrDivide},
		{"select 0 / 0" + one, "", "", api.ErrDivide},
		{"select 1 / (a - 1)" + one, "", "", api.ErrDivide},
		{"select null + 1 / 0" + one, "", "", api.ErrDivide},
		{"select 1 / 0 + (9223372036854775807 + 1)" + one, "", "", api.ErrOverflow},
		{"select (9223372036854775807 + 1) * (1 % 0)" + one, "", "", api.ErrOverflow},
		{"select 0 * (1 / 0)" + one, "", "", api.ErrDivide},
		{"select 'x' + 1" + one, "", "", api.ErrType},
		{"select 1 / 0 from none", "?", "", api.OK},
	})
}

// Each truth of two conditions: it is true if the rows stay, false if its negation's stay, else unknown.
func TestTruthsOfConditions(t *testing.T) {
	sides := []string{"1 = 2", "null = 1", "1 = 1"}
	stays := func(cond string) bool {
		_, rows, kind, _ := plain.Run(edges, "select 1 from n where a = 1 and ("+cond+")", nil)
		if kind != 0 {
			t.Fatalf("P9: the condition %s tells the kind %d", cond, kind)
		}
		return len(rows) == 1
	}
	truth := func(cond string) int {
		switch yes, no := stays(cond), stays("not ("+cond+")"); {
		case yes && no:
			t.Errorf("P9: %s is true, and so is its negation", cond)
		case yes:
			return 2
		case no:
			return 0
		}
		return 1
	}
	for l, left := range sides {
		if got := truth(left); got != l {
			t.Errorf("P9: %s is %d", left, got)
		}
		if got := truth("not (" + left + ")"); got != 2-l {
			t.Errorf("P9: not %s is %d", left, got)
		}
		for r, right := range sides {
			if got := truth(left + " and " + right); got != min(l, r) {
				t.Errorf("P9: %s and %s is %d", left, right, got)
			}
			if got := truth(left + " or " + right); got != max(l, r) {
				t.Errorf("P9: %s or %s is %d", left, right, got)
			}
		}
	}
}

func TestConditions(t *testing.T) {
	tellAll(t, "P9", edges, []told{
		{"select a from n where b < 0 or b > 0", "a", "2; 3", api.OK},
		{"select a from n where b = b", "a", "1; 2; 3", api.OK},
		{"select a from n where null = null or b <> b or not null = null", "a", "", api.OK},
		{"select a from n where b is null", "a", "4", api.OK},
		{"select a from n where b is not null and a >= 2 and a <= 3", "a", "2; 3", api.OK},
		{"select a from n where not b is null and not a > 1", "a", "1", api.OK},
		{"select a from n where b + 1 is null", "", "", api.ErrOverflow},
		{"select a from n where b * 0 is not null", "a", "1; 2; 3", api.OK},
		{"select a from n where b < 9223372036854775807 and -9223372036854775807 - 1 <= b", "a", "1; 3", api.OK},
		{"select a from n where 10 > 9 and '10' < '9' and 'a' > 'B' and '' < 'a' and 'ab' > 'a' and a = 1", "a", "1", api.OK},
		{"select a from n where '\xff' > '\u00e9' and 'x' = 'x' and 'x ' <> 'x' and a = 1", "a", "1", api.OK},
		{"select y from s where x = ''", "y", "-3", api.OK},
		{"select a from n where a = 9 and 1 / b = 1", "", "", api.ErrDivide},
		{"select a from n where a < 9 or 1 / b = 1", "", "", api.ErrDivide},
		{"select a from n where null = 1 and 1 / b = 1", "", "", api.ErrDivide},
		{"select a from n where 1 / b = 1 or b - 1 = 1", "", "", api.ErrOverflow},
		{"select a from n where b - 1 = 1 and 1 / b = 1", "", "", api.ErrOverflow},
		{"select a from n where not (1 / b is null)", "", "", api.ErrDivide},
		{"select a from n where null < 1 / b", "", "", api.ErrDivide},
	})
}

func TestSelections(t *testing.T) {
	tellAll(t, "P10", edges, []told{
		{"select x from s", "x", "null; null; null; ''; 'B'; 'b'; 'b'", api.OK},
		{"select distinct x from s", "x", "null; ''; 'B'; 'b'", api.OK},
		{"select distinct y, x from s", "y, x", "null,null; null,'B'; -3,''; 1,null; 1,'b'", api.OK},
		{"select distinct * from s where y = 1", "x, y", "null,1; 'b',1", api.OK},
		{"select distinct 1 from s", "?", "1", api.OK},
		{"select 1 from s where x is null", "?", "1; 1; 1", api.OK},
		{"select * from none", "x", "", api.OK},
		{"select * from s, none", "x, y, x", "", api.OK},
		{"select 1 / 0 from s, none, n", "?", "", api.OK},
		{"select m.a, n.a from n, n as m where m.a < n.a and n.a < 4", "a, a", "1,2; 1,3; 2,3", api.OK},
		{"select * from n as p, s where a = 1 and y = -3", "a, b, x, y", "1,0,'',-3", api.OK},
		{"select * from s, n as p where a = 1 and y = -3", "x, y, a, b", "'',-3,1,0", api.OK},
		{"select s.x, t.x from s, s as t where s.y = t.y and s.y < 0", "x, x", "'',''", api.OK},
		{"select a, a from n where a <> a", "a, a", "", api.OK},
	})
}

func TestWhichErrorOfASelection(t *testing.T) {
	tellAll(t, "P10", edges, []told{
		{"select b + a from n where 1 / b > 0", "", "", api.ErrDivide},
		{"select 1 / b from n where b + a > 0", "", "", api.ErrOverflow},
		{"select 1 / b, b + a from n", "", "", api.ErrOverflow},
		{"select b + a, 1 / b from n", "", "", api.ErrOverflow},
		{"select 1 / b from n where a <> 1", "?", "null; 0; 0", api.OK},
		{"select 1 / b from n where b <> 0", "?", "0; 0", api.OK},
		{"select distinct 1 / b from n", "", "", api.ErrDivide},
		// Where ahead of what is counted, that ahead of having, that ahead of the items.
		{"select sum(b + a) from n where 1 / b is null", "", "", api.ErrDivide},
		{"select count(b + a) from n group by a having 1 / (a - 1) = 5", "", "", api.ErrOverflow},
		{"select count(1 / b) from n group by a having b + a > 0", "", "", api.ErrScope},
		{"select count(1 / b) from n group by a having 9223372036854775807 + a > 0", "", "", api.ErrDivide},
		{"select a from n group by a having sum(1 / b) > 0 and 9223372036854775807 + a > 0", "", "", api.ErrDivide},
		{"select 9223372036854775807 + a from n group by a having 1 / (a - 1) = 5", "", "", api.ErrDivide},
		{"select 9223372036854775807 + a, sum(a) from n group by a having a > 9", "?, ?", "", api.OK},
		{"select a / (a - 1) from n group by a having a > 1 and a < 3", "?", "2", api.OK},
		{"select 9223372036854775807 + a, 1 / (a - 1) from n group by a", "", "", api.ErrOverflow},
		{"select count(1 / b) from n where b <> 0", "?", "2", api.OK},
		{"select count(1 / b), sum(b - a) from n", "", "", api.ErrOverflow},
		{"select count(1 / b) from n group by a having sum(b - a) = 1", "", "", api.ErrOverflow},
		// Of values one of which met an error there is no sum that could be too great.
		{"select sum(9223372036854775807 / (a - 1)) from n", "", "", api.ErrDivide},
		{"select sum(1 / (a - 1)), sum(9223372036854775807) from n, none", "?, ?", "null,null", api.OK},
		// One group cannot be summed, as an error was met in it; the sum of another is not of 64 bits.
		{"select sum(9223372036854775807 / (y + 3)) from s, n group by y", "", "", api.ErrOverflow},
		{"select sum(9223372036854775807 / (y + 3)) from s, n where y = 1 group by y", "", "", api.ErrOverflow},
		{"select sum(9223372036854775807 / (y + 3)) from s, n where y < 1 group by y", "", "", api.ErrDivide},
	})
}

func TestRowsOfGroups(t *testing.T) {
	tellAll(t, "P11", edges, []told{
		{"select x, count(*), count(x), count(y), sum(y) from s group by x", "x, ?, ?, ?, ?", "null,3,0,1,1; '',1,1,1,-3; 'B',1,1,0,null; 'b',2,2,2,2", api.OK},
		{"select x, y, count(*) from s group by x, y", "x, y, ?", "null,null,2; null,1,1; '',-3,1; 'B',null,1; 'b',1,2", api.OK},
		{"select x, y, count(*) from s group by y, x, y", "x, y, ?", "null,null,2; null,1,1; '',-3,1; 'B',null,1; 'b',1,2", api.OK},
		{"select 1 from s group by x", "?", "1; 1; 1; 1", api.OK},
		{"select distinct 1 from s group by x", "?", "1", api.OK},
		{"select count(*) from none", "?", "0", api.OK},
		{"select 1, count(*), max(x) from none", "?, ?, ?", "1,0,null", api.OK},
		{"select count(*) from none group by x", "?", "", api.OK},
		{"select count(*) from none, s", "?", "0", api.OK},
		{"select count(*), sum(b), min(b), max(b) from n where a > 9", "?, ?, ?, ?", "0,null,null,null", api.OK},
		{"select count(*) from n where a > 9 group by a", "?", "", api.OK},
		{"select count(b), sum(b), min(b), max(b) from n where b is null", "?, ?, ?, ?", "0,null,null,null", api.OK},
		{"select count(null), count(1), count(*), sum(null), max(null) from n", "?, ?, ?, ?, ?", "0,4,4,null,null", api.OK},
		{"select min(x), max(x), min(y), max(y) from s", "?, ?, ?, ?", "'','b',-3,1", api.OK},
		{"select min(b), max(b), max(-a), sum(a * a) - 1, -count(*) from n", "?, ?, ?, ?, ?", "-9223372036854775808,9223372036854775807,-1,29,-4", api.OK},
		{"select sum(b) from n", "?", "-1", api.OK},
		{"select sum(9223372036854775807) from n where a = 1", "?", "9223372036854775807", api.OK},
		{"select sum(9223372036854775807) from n where a < 3", "", "", api.ErrOverflow},
		{"select sum(b) from n where a = 3", "?", "-9223372036854775808", api.OK},
		{"select sum(n.b) from n, n as m where n.a = 3", "", "", api.ErrOverflow},
		{"select sum(n.b) from n, n as m", "?", "-4", api.OK}, // beyond 64 bits on the way
		{"select sum(b), sum(b) + sum(b) from n", "?, ?", "-1,-2", api.OK},
		{"select sum(b) + sum(b) from n where a = 2", "", "", api.ErrOverflow},
		{"select y, count(*) from s group by y having count(*) > 1", "y, ?", "null,3; 1,3", api.OK},
		{"select y, count(*) from s group by y having y > 0 or max(x) = ''", "y, ?", "-3,1; 1,3", api.OK},
		{"select y from s group by y having null = 1", "y", "", api.OK},
		{"select y from s group by y having not y = 1", "y", "-3", api.OK},
		{"select max(y) from s group by x having y = 1", "", "", api.ErrScope},
		{"select m.a, count(*) from n, n as m where m.a > n.a group by m.a", "a, ?", "2,1; 3,2; 4,3", api.OK},
		{"select count(*) from n, n as m, n as o", "?", "64", api.OK},
		{"select sum(x) from s", "", "", api.ErrType},
	})
}

// copies is a selection from which a row of one column comes so often.
func copies(value string, n int) string {
	return "select " + value + " from c where i <= " + strconv.Itoa(n)
}

func TestTwoQueriesPutTogether(t *testing.T) {
	const data = "table c i int\nrow 1\nrow 2\nrow 3\n"
	often := map[string]func(l, r int) int{
		"union all":     func(l, r int) int { return l + r },
		"intersect all": func(l, r int) int { return min(l, r) },
		"except all":    func(l, r int) int { return max(0, l-r) },
		"union":         func(l, r int) int { return min(1, l+r) },
		"intersect":     func(l, r int) int { return min(1, l*r) },
		"except": func(l, r int) int {
			if l > 0 && r == 0 {
				return 1
			}
			return 0
		},
	}
	for sign, times := range often {
		for l := range 4 {
			for r := range 4 {
				for _, value := range []string{"7", "'x'", "null"} {
					query := copies(value, l) + " " + sign + " " + copies(value, r)
					want := strings.Repeat(value+"; ", times(l, r))
					tellAll(t, "P12", data, []told{{query, "?", strings.TrimSuffix(want, "; "), api.OK}})
				}
			}
		}
	}
}

func TestPutTogether(t *testing.T) {
	tellAll(t, "P12", edges, []told{
		{"select x, y from s except all select x, y from s where x = 'b'", "x, y", "null,null; null,null; null,1; '',-3; 'B',null", api.OK},
		{"select x, y from s intersect select null, null from n", "x, y", "null,null", api.OK},
		{"select x, y from s intersect all select null, null from n", "x, y", "null,null; null,null", api.OK},
		{"select y as one from s union select a as two from n", "one", "null; -3; 1; 2; 3; 4", api.OK},
		{"select 1 from none union select a as two from n", "?", "1; 2; 3; 4", api.OK},
		{"select null from n union all select x from s where x > 'a'", "?", "null; null; null; null; 'b'; 'b'", api.OK},
		{"select a from n except select 1 from n union select 1 from n", "a", "1; 2; 3; 4", api.OK},
		{"select a from n except (select 1 from n union select 2 from n)", "a", "3; 4", api.OK},
		{"select a from n union all select a from n intersect select 4 from n", "a", "4", api.OK},
		{"select a from n union all (select a from n intersect select 4 from n)", "a", "1; 2; 3; 4; 4", api.OK},
		{"select a, b from n intersect select b, a from n", "a, b", "", api.OK},
		{"select 1 / b from n union select b + a from n", "", "", api.ErrOverflow},
		{"select b + a from n union select 1 / b from n", "", "", api.ErrOverflow},
		{"select 1 from none intersect select 1 / b from n", "", "", api.ErrDivide},
		{"select 1 / b from n except all select 1 from n", "", "", api.ErrDivide},
		{"select 1 / b from n union select 1 from none union all select -b from n", "", "", api.ErrOverflow},
		{"select a from n union select x from s", "", "", api.ErrType},
	})
}

// twelve has 1,728 rows beside themselves: more than one goroutine looks at them.
const twelve = "table t a int\nrow 1\nrow 2\nrow 3\nrow 4\nrow 5\nrow 6\nrow 7\nrow 8\nrow 9\nrow 10\nrow 11\nrow 12\n"

func TestManyRows(t *testing.T) {
	const three = " from t as x, t as y, t as z"
	tellAll(t, "P10", twelve, []told{
		{"select count(*), sum(x.a), min(y.a), max(z.a)" + three, "?, ?, ?, ?", "1728,11232,1,12", api.OK},
		{"select x.a, y.a, z.a" + three + " where x.a * y.a * z.a = 1727 or x.a * y.a * z.a > 1583", "a, a, a", "11,12,12; 12,11,12; 12,12,11; 12,12,12", api.OK},
		{"select count(*)" + three + " where x.a < y.a and y.a < z.a", "?", "220", api.OK},
		{"select x.a" + three + " where 1 / (x.a * 144 + y.a * 12 + z.a - 1884) = 2", "", "", api.ErrDivide}, // the last row alone
		{"select x.a" + three + " where 1 / (x.a * 144 + y.a * 12 + z.a - 157) = 2", "", "", api.ErrDivide},  // the first row alone
		{"select x.a" + three + " where 1 / (x.a + y.a + z.a - 3) + 9223372036854775771 + x.a + y.a + z.a = 2", "", "", api.ErrDivide},
		{"select x.a" + three + " where 1 / (x.a + y.a + z.a - 3) + 9223372036854775772 + x.a + y.a + z.a = 2", "", "", api.ErrOverflow},
		{"select 1 / (x.a + y.a + z.a - 36)" + three, "", "", api.ErrDivide},
		{"select x.a, y.a, count(*), sum(z.a)" + three + " group by x.a, y.a having x.a * y.a > 140", "a, a, ?, ?", "12,12,12,78", api.OK},
		{"select 1" + three + " group by x.a, y.a having 1 / (x.a * y.a - 144) = 7", "", "", api.ErrDivide},
		{"select x.a" + three + " where x.a = y.a and y.a = z.a and x.a in (select a from t where a > x.a - 1 and a < y.a + 1 and z.a > 10)", "a", "11; 12", api.OK},
	})
}

func TestNoGoroutineIsLeft(t *testing.T) {
	before := runtime.NumGoroutine()
	for range 20 {
		plain.Run(twelve, "select 1 from t as x, t as y, t as z where 1 / (x.a - 12) = 1", nil)
		plain.Run(twelve, "select 1 from t as x, t as y, t as z where x.a = 1", []int{3})
	}
	for tries := 0; runtime.NumGoroutine() > before && tries < 1000; tries++ {
		runtime.Gosched()
	}
	if after := runtime.NumGoroutine(); after > before {
		t.Errorf("%d goroutines are left", after-before)
	}
}

// What a table's text says comes out of a query: P2 says which numbers and texts its values are.
func TestValuesAsRead(t *testing.T) {
	tellAll(t, "P2", "table t a int b text\nrow 007 ''\nrow -0 'it''s'\nrow -9223372036854775808 '  x '\nrow null '\xff\t\\'\nrow 9223372036854775807 null\n", []told{
		{"select * from t", "a, b", "null,'\xff\t\\'; -9223372036854775808,'  x '; 0,'it''s'; 7,''; 9223372036854775807,null", api.OK},
	})
}

func TestQueriesChangeNothing(t *testing.T) {
	d, err := bags.Open(edges)
	if err != nil {
		t.Fatal(err)
	}
	queries := []string{"select * from s", "select distinct * from s, n", "select x, count(*) from s group by x", "select x from s except select 'b' from n", "select 1 / b from n", "select * from s, n as m, n"}
	first := map[string]string{}
	for range 3 {
		for _, query := range queries {
			r, err := d.Query(query)
			now := shown(r, err)
			if before, asked := first[query]; asked && now != before {
				t.Errorf("P1: Query(%q) = %s, and before %s", query, now, before)
			}
			first[query] = now
		}
	}
}

// shown is all that an answer has, and writes over it.
func shown(r *bags.Result, err error) string {
	if err != nil {
		return err.Error()
	}
	columns := r.Columns()
	text := strings.Join(columns, ",")
	for i := range columns {
		columns[i] = "mine"
	}
	for row := range r.Rows() {
		text += ";"
		for i, v := range row {
			text += " " + v.Written()
			row[i] = api.Text("mine")
		}
	}
	return text
}
