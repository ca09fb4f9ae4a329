package bags_test

import (
	"math"
	"slices"
	"strings"
	"testing"
	"unsafe"

	"bags/api"
	"bags/bags"
	"bags/plain"
)

func TestColumnsOfResults(t *testing.T) {
	for _, c := range [][2]string{
		{"select id from town", "id"},
		{"select town.id, t.name from town, town as t", "id, name"},
		{"select id as one, name as id, (name) from town", "one, id, name"},
		{"select id + 0, -id, 1, 'x', null, (id) from town", "?, ?, ?, ?, ?, id"},
		{"select count(*), max(id), sum(id) as s from town", "?, ?, s"},
		{"select count(*) as count_, town as town from person group by town", "count_, town"},
		{"select * from person", "name, town, age"},
		{"select * from town as p, none, person", "id, name, x, name, town, age"},
		{"select * from person, none, town as p", "name, town, age, x, id, name"},
		{"select distinct id as x from town", "x"},
		{"select id as a, name as b from town union select id as c, name as d from town", "a, b"},
		{"select * from town except all select town, name from person", "id, name"},
		{"(select 1 from town intersect select id as b from town) union select id as c from town", "?"},
		{"select id from town where exists (select name as x from person)", "id"},
	} {
		columns, _, kind, _ := plain.Run(towns, c[0], nil)
		if kind != 0 || strings.Join(columns, ", ") != c[1] {
			t.Errorf("P14: the columns of %q are %q (kind %d), want %s", c[0], columns, kind, c[1])
		}
	}
}

func TestOrder(t *testing.T) {
	const data = "table t a int b text c int\nrow 10 'b' 1\nrow -1 'a' 2\nrow 9 '' 3\nrow null 'B' 4\nrow 9 null 5\nrow -10 'ab' 6\nrow 9 '\xff' 7\nrow 9 '\u00e9' 8\nrow null null 9\nrow 9223372036854775807 '10' 10\nrow -9223372036854775808 '9' 11\nrow 10 'b' 1\n"
	tellAll(t, "P14", data, []told{
		{"select a, c from t", "a, c", "null,4; null,9; -9223372036854775808,11; -10,6; -1,2; 9,3; 9,5; 9,7; 9,8; 10,1; 10,1; 9223372036854775807,10", api.OK},
		{"select b from t", "b", "null; null; ''; '10'; '9'; 'B'; 'a'; 'ab'; 'b'; 'b'; '\u00e9'; '\xff'", api.OK},
		{"select a, b, c from t where a = 9 or a is null", "a, b, c", "null,null,9; null,'B',4; 9,null,5; 9,'',3; 9,'\u00e9',8; 9,'\xff',7", api.OK},
		{"select c, a from t where c > 8", "c, a", "9,null; 10,9223372036854775807; 11,-9223372036854775808", api.OK},
		{"select 1, null, -c from t where c < 3", "?, ?, ?", "1,null,-2; 1,null,-1; 1,null,-1", api.OK},
	})
}

func TestLimits(t *testing.T) {
	const one, many = "select a from t", "select x.a from t as x, t as y, t as z"
	for _, c := range []struct {
		query  string
		limits []int
		kind   api.Errno
	}{
		{one, nil, api.OK},
		{one, []int{12}, api.OK},
		{one, []int{13}, api.OK},
		{one, []int{11}, api.ErrLimit},
		{one, []int{1}, api.ErrLimit},
		{one, []int{0}, api.ErrLimit},
		{one, []int{-1}, api.ErrLimit},
		{one, []int{math.MinInt}, api.ErrLimit},
		{one, []int{2000}, api.OK},
		{one, []int{2001}, api.OK},
		{one, []int{math.MaxInt}, api.OK},
		{one, []int{12, 0, -7}, api.OK},
		{one, []int{11, 12}, api.ErrLimit},
		{one + " where a > 12", []int{0}, api.OK},
		{one + " where a > 12", []int{-1}, api.OK},
		{one + " where a > 11", []int{1}, api.OK},
		{"select distinct 1 from t as x, t as y, t as z", []int{1}, api.OK},
		{"select count(*) from t as x, t as y, t as z", []int{1}, api.OK},
		{many, nil, api.OK},
		{many, []int{1728}, api.OK},
		{many, []int{1727}, api.ErrLimit},
		{many + " union all select x.a from t as x, t as y", nil, api.OK},
		{many + " union all " + many + " where x.a * 144 + y.a * 12 + z.a < 157 + 272", nil, api.OK}, // 2,000 rows
		{many + " union all " + many + " where x.a * 144 + y.a * 12 + z.a < 157 + 273", nil, api.ErrLimit},
		{many + " union all " + many, nil, api.ErrLimit},
		{many + " union all " + many, []int{5000}, api.ErrLimit},
		{many + " union all " + many + " intersect all " + one, nil, api.OK}, // the limit is of what comes out alone
		{many + " union all " + many + " except all " + many, nil, api.OK},
		{"select 1 from t where a < any (" + many + " union all " + many + ")", []int{11}, api.OK},
		{"select distinct 1 from t where 3 = all (" + many + " union all " + many + ")", []int{0}, api.OK},
		// ErrLimit is behind all other errors.
		{"select 1 / (a - 12) from t", []int{0}, api.ErrDivide},
		{"select 9223372036854775807 + a from t", []int{0}, api.ErrOverflow},
		{"select a + 'x' from t", []int{0}, api.ErrType},
		{"select b from t", []int{0}, api.ErrScope},
		{"select from t", []int{0}, api.ErrSyntax},
		{many + " union all " + many + " union all select 1 / 0 from t", nil, api.ErrDivide},
	} {
		columns, rows, kind, at := plain.Run(twelve, c.query, c.limits)
		if api.Errno(kind) != c.kind || at != 0 {
			t.Errorf("P14: %q with the limits %d tells the kind %d at %d, want %d", c.query, c.limits, kind, at, c.kind)
		}
		if c.kind != api.OK && (columns != nil || rows != nil) {
			t.Errorf("P1: %q tells the kind %d, and rows", c.query, kind)
		}
	}
}

func TestGoingOverRows(t *testing.T) {
	d, err := bags.Open(twelve)
	if err != nil {
		t.Fatal(err)
	}
	r, err := d.Query("select a, 1 from t")
	if err != nil {
		t.Fatal(err)
	}
	rows := r.Rows()
	for stop := 1; stop <= 12; stop++ {
		asked := 0
		rows(func(row []api.Value) bool {
			asked++
			if row[0] != api.Int(asked) {
				t.Errorf("P14: the row at %d is %v", asked, row)
			}
			row[0] = api.Null{}
			return asked < stop
		})
		if asked != stop {
			t.Errorf("P14: told to stop at %d rows it goes on to %d", stop, asked)
		}
	}
	var first, second [][]api.Value
	for row := range r.Rows() {
		for again := range rows { // one going within another
			second = append(second, again)
			break
		}
		first = append(first, row)
	}
	if len(first) != 12 || len(second) != 12 || slices.ContainsFunc(second, func(row []api.Value) bool { return row[0] != api.Int(1) }) {
		t.Errorf("P14: gone over within itself: %v, %v", first, second)
	}
}

// The same row is there several times, and is asked for several times: each is the caller's own.
func TestRowsAreTheCallers(t *testing.T) {
	d, err := bags.Open(towns)
	if err != nil {
		t.Fatal(err)
	}
	for _, query := range []string{"select * from town", "select 1, 2 from town", "select name from person union all select name from person", "select * from person, none"} {
		r, err := d.Query(query)
		if err != nil {
			t.Fatal(err)
		}
		before := shown(r, nil)
		if again := shown(r, nil); again != before {
			t.Errorf("P1: %q tells %s, and asked for again %s", query, before, again)
		}
		other, err := d.Query(query)
		if now := shown(other, err); now != before {
			t.Errorf("P1: %q tells %s, and another result %s", query, before, now)
		}
		columns := r.Columns()
		if extended := append(columns[:1], "mine"); len(extended) != 2 || !strings.HasPrefix(before, strings.Join(r.Columns(), ",")) {
			t.Errorf("P1: the columns of %q are %q once the caller wrote into them", query, r.Columns())
		}
	}
}

func TestNoRows(t *testing.T) {
	d, err := bags.Open(towns)
	if err != nil {
		t.Fatal(err)
	}
	r, err := d.Query("select x as y from none", 0)
	if err != nil || !slices.Equal(r.Columns(), []string{"y"}) {
		t.Fatalf("P14: %v, %v", r, err)
	}
	for row := range r.Rows() {
		t.Errorf("P14: a row of none: %v", row)
	}
}

// What comes out must not keep the text that was handed in: neither the names that stand in it, nor its texts.
func TestAnswersAreNewMemory(t *testing.T) {
	data, query := strings.Clone(towns), strings.Clone("select 'text' as first, name as second, id from town")
	d, err := bags.Open(data)
	if err != nil {
		t.Fatal(err)
	}
	r, err := d.Query(query)
	if err != nil {
		t.Fatal(err)
	}
	texts := r.Columns()
	for row := range r.Rows() {
		for _, v := range row {
			if text, ok := v.(api.Text); ok {
				texts = append(texts, string(text))
			}
		}
	}
	for _, text := range texts {
		if isPieceOf(data, text) || isPieceOf(query, text) {
			t.Errorf("%q is a piece of a text that was handed in", text)
		}
	}
}

func isPieceOf(whole, piece string) bool {
	at, first := uintptr(unsafe.Pointer(unsafe.StringData(piece))), uintptr(unsafe.Pointer(unsafe.StringData(whole)))
	return first <= at && at < first+uintptr(len(whole))
}
