package bags_test

import (
	"errors"
	"strings"
	"testing"

	"bags/api"
	"bags/bags"
)

// kindAndPlace takes an error apart, and checks that it is one Fault of one kind.
func kindAndPlace(t *testing.T, err error) (api.Errno, int) {
	t.Helper()
	if err == nil {
		return api.OK, 0
	}
	var f *api.Fault
	if !errors.As(err, &f) {
		t.Fatalf("the section Words: %v is no Fault", err)
	}
	for k := api.OK; k <= api.ErrLimit; k++ {
		if errors.Is(err, k) != (k == f.Kind) {
			t.Fatalf("the section Words: errors.Is finds the kind %d in %v", k, err)
		}
	}
	if f.Kind == api.OK {
		t.Fatalf("the section Words: an error of the kind OK")
	}
	return f.Kind, f.At
}

func TestOpenOrdinary(t *testing.T) {
	for _, data := range []string{
		"",
		"\n\n   \n",
		"table town id int name text\nrow 1 'Oslo'\nrow 2 'Rome'\nrow 3 null\ntable none x int\n",
		"table t a int b text\n  row   -5   'it''s'  ",
		"table int text int\nrow 007\nrow -0",
		"table t a int\nrow 9223372036854775807\nrow -9223372036854775808",
		"table t a int b int c int d int e int f int",
		"table t a int\n" + strings.Repeat("row 1\n", 12) + "table u a int\n" + strings.Repeat("row 1\n", 12),
		eightTables(),
		strings.Repeat(" ", 4000),
		"table t a text\nrow '" + strings.Repeat("x", 3979) + "'",
	} {
		d, err := bags.Open(data)
		if d == nil || err != nil {
			t.Errorf("P2: Open(%.60q) = %v, %v", data, d, err)
		}
	}
}

func eightTables() string {
	text := ""
	for _, name := range strings.Split("abcdefgh", "") {
		text += "table " + name + " x int\n"
	}
	return text
}

func TestOpenWrong(t *testing.T) {
	for _, c := range []struct {
		data string
		line int
	}{
		{strings.Repeat(" ", 4001), 0},
		{"?" + strings.Repeat(" ", 4000), 0},
		{"town", 1},
		{"tables t a int", 1},
		{"table", 1},
		{"Table t a int", 1},
		{"\ttable t a int", 1},
		{"table t a int\r\n", 1},
		{"\n \n?", 3},
		{"table t a int\nrow 1\n?\n?", 3},
		{"table t a int\ntable t b int", 2},
		{"table t a int\ntable T a int\ntable t a int", 3},
		{"table t", 1},
		{"table t a", 1},
		{"table t a int b", 1},
		{"table t a Int", 1},
		{"table t a null", 1},
		{"table t a int b int c int d int e int f int g int", 1},
		{"table t a int b text a text", 1},
		{"table 1 a int", 1},
		{"table t-u a int", 1},
		{"table t\u00e9 a int", 1},
		{"table 't' a int", 1},
		{"table t 'a' int", 1},
		{"table null a int", 1},
		{"table t min int", 1},
		{eightTables() + "\ntable i x int", 10},
		{eightTables() + "table a x int", 9},
		{"row 1", 1},
		{"\nrow", 2},
		{"table t a int\nrow", 2},
		{"table t a int\nrow 1 2", 2},
		{"table t a int b int\nrow 1", 2},
		{"table t a int\nrow1", 2},
		{"table t a text\nrow'x'", 2},
		{"table t a int\nrow '1'", 2},
		{"table t a text\nrow 1", 2},
		{"table t a int\nrow Null", 2},
		{"table t a int\nrow +1", 2},
		{"table t a int\nrow - 1", 2},
		{"table t a int\nrow --1", 2},
		{"table t a int\nrow -", 2},
		{"table t a int\nrow 1_0", 2},
		{"table t a int\nrow 0x1", 2},
		{"table t a int\nrow 1,", 2},
		{"table t a int\nrow 9223372036854775808", 2},
		{"table t a int\nrow -9223372036854775809", 2},
		{"table t a text\nrow 'x", 2},
		{"table t a text\nrow 'x''", 2},
		{"table t a text\nrow '''", 2},
		{"table t a text\nrow 'x\ny'", 2},
		{"table t a text\nrow x'", 2},
		{"table t a text b text\nrow 'x'y 'z'", 2},
		{"table t a text b text\nrow 'x'\t'z'", 2},
		{"table t a int\n" + strings.Repeat("row 1\n", 13), 14},
		{"table t a int\nrow 1\ntable u a int\n" + strings.Repeat("\nrow 1\n", 13), 29},
	} {
		d, err := bags.Open(c.data)
		e, at := kindAndPlace(t, err)
		if d != nil || e != api.ErrData || at != c.line {
			t.Errorf("P2: Open(%.60q) = %v, %v, want ErrData at %d", c.data, d, err, c.line)
		}
	}
}

func TestPrintOrdinary(t *testing.T) {
	for _, c := range [][2]string{
		{"select a+b*-2,count ( * ) as n from t as x where not a=1 or b in(select 1 from u)", "select (a + (b * (-2))), count(*) as n from t as x where ((not a = 1) or b in (select 1 from u))"},
		{"(select x.a from x) union all select 1 from y group by y.b having max((b))>=all(select 1 from z)", "(select x.a from x union all select 1 from y group by y.b having max(b) >= all (select 1 from z))"},
		{"select distinct * from t, u where (a = 1 and (b = 'it''s'))", "select distinct * from t, u where (a = 1 and b = 'it''s')"},
		{"select*from t", "select * from t"},
		{"select 000, 0010, 9223372036854775807, '', '''', null from t", "select 0, 10, 9223372036854775807, '', '''', null from t"},
		{"select ' -- \t\x00\xff ' from t -- '", "select ' -- \t\x00\xff ' from t"},
		{"--\nselect--(\na--)\nfrom\tt--", "select a from t"},
		{"select x . a , x.b from t as x,u as y", "select x.a, x.b from t as x, u as y"},
		{"select a+b+c-d, a+(b+c), a*b/c%d, a*(b/c) from t", "select (((a + b) + c) - d), (a + (b + c)), (((a * b) / c) % d), (a * (b / c)) from t"},
		{"select a+b*c, (a+b)*c, ((a))+((b)) from t", "select (a + (b * c)), ((a + b) * c), (a + b) from t"},
		{"select -1, - a . b, -(-1), -a+b, -(a+b), a- -b, a*-b from t", "select (-1), (-a.b), (-(-1)), ((-a) + b), (-(a + b)), (a - (-b)), (a * (-b)) from t"},
		{"select sum(a+b), min ( (a) ), max(-a), count(( 'x' )) from t", "select sum((a + b)), min(a), max((-a)), count('x') from t"},
		{"select a from t where a=1 or b=2 or c=3 and d=4 and e=5", "select a from t where ((a = 1 or b = 2) or ((c = 3 and d = 4) and e = 5))"},
		{"select a from t where (a=1 or b=2) and (c=3 or (d=4))", "select a from t where ((a = 1 or b = 2) and (c = 3 or d = 4))"},
		{"select a from t where not not a=1 and not(b=2 and c=3)", "select a from t where ((not (not a = 1)) and (not (b = 2 and c = 3)))"},
		{"select a from t where ((a)) is null and (((a+1) is not null))", "select a from t where (a is null and (a + 1) is not null)"},
		{"select a from t where a<b and a<=b and a>b and a>=b and a<>b", "select a from t where ((((a < b and a <= b) and a > b) and a >= b) and a <> b)"},
		{"select a from t where a+1 not in((select b from u))or a=any(select b from u)", "select a from t where ((a + 1) not in (select b from u) or a = any (select b from u))"},
		{"select a from t where exists(select b from u union select c from v)", "select a from t where exists ((select b from u union select c from v))"},
		{"select a from t where a in(select b from u except all(select c from v))", "select a from t where a in ((select b from u except all select c from v))"},
		{"select a from t where a<all(((select b from u)intersect select c from v))", "select a from t where a < all ((select b from u intersect select c from v))"},
		{"select a from t group by t.a , b", "select a from t group by t.a, b"},
		{"select a from t where a=1 group by a having count(*)=1 or (sum(a)>2)", "select a from t where a = 1 group by a having (count(*) = 1 or sum(a) > 2)"},
		{"select a from t union select b from u intersect all select c from v", "((select a from t union select b from u) intersect all select c from v)"},
		{"select a from t union(select b from u intersect all select c from v)", "(select a from t union (select b from u intersect all select c from v))"},
		{"((select a from t))", "select a from t"},
	} {
		s, err := bags.Print(c[0])
		if err != nil || s != c[1] {
			t.Errorf("P5: Print(%q) = %q, %v, want %q", c[0], s, err, c[1])
		}
		if again, err := bags.Print(s); again != s || err != nil {
			t.Errorf("P5: Print(%q) = %q, %v, want the same", s, again, err)
		}
	}
}

func TestPrintWrong(t *testing.T) {
	nested := func(n int) string {
		return "select " + strings.Repeat("(", n) + "a" + strings.Repeat(")", n) + " from t"
	}
	for _, c := range []struct {
		query string
		kind  api.Errno
		at    int
	}{
		{strings.Repeat(" ", 401), api.ErrLex, 400},
		{"#" + nested(17) + strings.Repeat(" ", 400), api.ErrLex, 400},
		{"select a from t" + strings.Repeat(" ", 385), api.OK, 0},
		{"select # from t", api.ErrLex, 7},
		{"select a from t where\nb = 'x", api.ErrLex, 26},
		{"select 9223372036854775808", api.ErrLex, 7},
		{") ) #", api.ErrLex, 4},
		{nested(17) + "#", api.ErrLex, 49},
		{"", api.ErrSyntax, 0},
		{"-- select a from t", api.ErrSyntax, 0},
		{"select a frOm t", api.ErrSyntax, 0},
		{"select a from t where a = (select 1 from u)", api.ErrSyntax, 0},
		{"select a from t where (a = 1) = (b = 2)", api.ErrSyntax, 0},
		{"select a from t where (a and b)", api.ErrSyntax, 0},
		{"select a = 1 from t", api.ErrSyntax, 0},
		{"select a from t having a = 1", api.ErrSyntax, 0},
		{"select sum(*) from t", api.ErrSyntax, 0},
		{"select count(distinct a) from t", api.ErrSyntax, 0},
		{"select 'a' 'b' from t", api.ErrSyntax, 0},
		{"select a from t '('", api.ErrSyntax, 0},
		{"select count from t", api.ErrSyntax, 0},
		{nested(17) + " t", api.ErrSyntax, 0},
		{nested(16), api.OK, 0},
		{nested(17), api.ErrDeep, 0},
		{"select sum(" + strings.Repeat("(", 15) + "a" + strings.Repeat(")", 16) + " from t", api.OK, 0},
		{"select sum(" + strings.Repeat("(", 16) + "a" + strings.Repeat(")", 17) + " from t", api.ErrDeep, 0},
		{"select '" + strings.Repeat("(", 17) + "' from t --" + strings.Repeat("(", 17), api.OK, 0},
		{"select " + strings.Repeat("(a),", 20) + "a from t", api.OK, 0},
		{"select a from t where exists (select a from t where a in (select " + nested(14)[7:] + "))", api.OK, 0},
		{"select a from t where exists (select a from t where a in (select " + nested(15)[7:] + "))", api.ErrDeep, 0},
	} {
		s, err := bags.Print(c.query)
		e, at := kindAndPlace(t, err)
		if e != c.kind || at != c.at || (s == "") != (err != nil) {
			t.Errorf("P3, P4: Print(%.60q) = %.40q, %v, want the kind %d at %d", c.query, s, err, c.kind, c.at)
		}
	}
}
