package plan

import (
	"math"
	"math/big"
	"slices"
	"strings"
	"testing"

	"bags/api"
	"bags/tables"
)

// asked works out an expression that needs no row.
func asked(e Expr) (api.Value, api.Errno) { return e(&Frame{}) }

// exact works out a sum or product in numbers without bounds.
func exact(sign string, a, b int64) (api.Value, api.Errno) {
	x, y, n := big.NewInt(a), big.NewInt(b), new(big.Int)
	switch {
	case sign == "+":
		n.Add(x, y)
	case sign == "-":
		n.Sub(x, y)
	case sign == "*":
		n.Mul(x, y)
	case b == 0:
		return api.Null{}, api.ErrDivide
	case sign == "/":
		n.Quo(x, y)
	default:
		n.Rem(x, y)
	}
	if !n.IsInt64() {
		return api.Null{}, api.ErrOverflow
	}
	return api.Int(n.Int64()), api.OK
}

func TestArithIsExact(t *testing.T) {
	const low, high = math.MinInt64, math.MaxInt64
	numbers := []int64{low, low + 1, low / 2, low/2 - 1, -3037000500, -7, -2, -1, 0, 1, 2, 7, 3037000499, 3037000500, high / 2, high/2 + 1, high - 1, high}
	for _, sign := range []string{"+", "-", "*", "/", "%"} {
		for _, a := range numbers {
			for _, b := range numbers {
				got, met := asked(Arith(sign, Literal(api.Int(a)), Literal(api.Int(b))))
				if want, error := exact(sign, a, b); got != want || met != error {
					t.Errorf("%d %s %d = %v, %d, want %v, %d", a, sign, b, got, met, want, error)
				}
			}
		}
	}
}

func TestArithOfNull(t *testing.T) {
	null, one := Literal(api.Null{}), Literal(api.Int(1))
	for _, sign := range []string{"+", "-", "*", "/", "%"} {
		for _, e := range []Expr{Arith(sign, null, one), Arith(sign, one, null), Arith(sign, null, null)} {
			if got, met := asked(e); got != (api.Null{}) || met != api.OK {
				t.Errorf("%s with a null = %v, %d", sign, got, met)
			}
		}
	}
	if got, met := asked(Negated(null)); got != (api.Null{}) || met != api.OK {
		t.Errorf("the negation of null = %v, %d", got, met)
	}
}

func TestNegated(t *testing.T) {
	if got, met := asked(Negated(Literal(api.Int(7)))); got != api.Int(-7) || met != api.OK {
		t.Errorf("-7 = %v, %d", got, met)
	}
	if _, met := asked(Negated(Literal(api.Int(math.MinInt64)))); met != api.ErrOverflow {
		t.Errorf("the negation of the least number meets %d", met)
	}
}

func TestLeast(t *testing.T) {
	for _, c := range [][3]api.Errno{
		{api.OK, api.OK, api.OK},
		{api.ErrDivide, api.OK, api.ErrDivide},
		{api.ErrDivide, api.ErrOverflow, api.ErrOverflow},
		{api.ErrDivide, api.ErrDivide, api.ErrDivide},
	} {
		if Least(c[0], c[1]) != c[2] || Least(c[1], c[0]) != c[2] {
			t.Errorf("of %d and %d the least is %d", c[0], c[1], Least(c[0], c[1]))
		}
	}
}

func TestRow(t *testing.T) {
	overflow, divide := Negated(Literal(api.Int(math.MinInt64))), Arith("/", Literal(api.Int(1)), Literal(api.Int(0)))
	f := &Frame{Entry: Entry{Row: []api.Value{api.Int(1), api.Text("x")}, Made: []api.Value{api.Int(3)}}, Around: &Frame{Entry: Entry{Row: []api.Value{api.Null{}}}}}
	row, met := Row([]Expr{Column(0, 1), Made(0), Column(1, 0), Column(0, 0)})(f)
	if want := []api.Value{api.Text("x"), api.Int(3), api.Null{}, api.Int(1)}; !slices.Equal(row, want) || met != api.OK {
		t.Errorf("the row is %v, %d, want %v", row, met, want)
	}
	for _, items := range [][]Expr{{divide, overflow}, {overflow, divide}, {overflow, Column(0, 0)}} {
		if _, met := Row(items)(f); met != api.ErrOverflow {
			t.Errorf("P10: of all items' errors %d is told", met)
		}
	}
}

// rowsOf is a table of one column.
func rowsOf(values ...api.Value) *tables.Table {
	t := &tables.Table{}
	for _, v := range values {
		t.Rows = append(t.Rows, []api.Value{v})
	}
	return t
}

func TestEntries(t *testing.T) {
	two, three := rowsOf(api.Int(1), api.Int(2)), rowsOf(api.Text("a"), api.Null{}, api.Text("a"))
	for _, c := range []struct {
		sources []*tables.Table
		want    string
	}{
		{[]*tables.Table{two}, "1 2"},
		{[]*tables.Table{rowsOf()}, ""},
		{[]*tables.Table{two, rowsOf(), three}, ""},
		{[]*tables.Table{two, three}, "1,'a' 1,null 1,'a' 2,'a' 2,null 2,'a'"},
		{[]*tables.Table{two, two, rowsOf(api.Int(7))}, "1,1,7 1,2,7 2,1,7 2,2,7"},
	} {
		s := &Selection{Sources: c.sources}
		for range 2 {
			var rows []string
			for _, entry := range s.Entries() {
				var values []string
				for _, v := range entry.Row {
					values = append(values, v.Written())
				}
				rows = append(rows, strings.Join(values, ","))
			}
			if got := strings.Join(rows, " "); got != c.want {
				t.Errorf("P10: the entries are %s, want %s", got, c.want)
			}
		}
	}
}

// known is a condition of that truth.
func known(truth Truth) Cond {
	return func(*Frame) (Truth, api.Errno) { return truth, api.OK }
}

func TestTruths(t *testing.T) {
	names := [...]string{"false", "unknown", "true"}
	and := [3][3]Truth{{False, False, False}, {False, Unknown, Unknown}, {False, Unknown, True}}
	or := [3][3]Truth{{False, Unknown, True}, {Unknown, Unknown, True}, {True, True, True}}
	not := [3]Truth{True, Unknown, False}
	for a := False; a <= True; a++ {
		for b := False; b <= True; b++ {
			if got, _ := Logic("and", known(a), known(b))(nil); got != and[a][b] {
				t.Errorf("%s and %s is %s", names[a], names[b], names[got])
			}
			if got, _ := Logic("or", known(a), known(b))(nil); got != or[a][b] {
				t.Errorf("%s or %s is %s", names[a], names[b], names[got])
			}
		}
		if got, _ := Not(known(a))(nil); got != not[a] {
			t.Errorf("not %s is %s", names[a], names[got])
		}
	}
}

func TestCompare(t *testing.T) {
	for _, c := range []struct {
		a, b  api.Value
		truth string // of = <> < <= > >=, a letter each
	}{
		{api.Int(1), api.Int(1), "tfftft"},
		{api.Int(-2), api.Int(1), "ftttff"},
		{api.Int(10), api.Int(9), "ftfftt"},
		{api.Int(math.MinInt64), api.Int(math.MaxInt64), "ftttff"},
		{api.Text("a"), api.Text("a"), "tfftft"},
		{api.Text(""), api.Text("a"), "ftttff"},
		{api.Text("10"), api.Text("9"), "ftttff"},
		{api.Text("a"), api.Text("B"), "ftfftt"},
		{api.Text("\xff"), api.Text("\u00e9"), "ftfftt"},
		{api.Text("ab"), api.Text("a"), "ftfftt"},
		{api.Null{}, api.Int(0), "uuuuuu"},
		{api.Text(""), api.Null{}, "uuuuuu"},
		{api.Null{}, api.Null{}, "uuuuuu"},
	} {
		for i, sign := range []string{"=", "<>", "<", "<=", ">", ">="} {
			got, met := Compare(sign, Literal(c.a), Literal(c.b))(nil)
			if "fut"[got] != c.truth[i] || met != api.OK {
				t.Errorf("%s %s %s is %c, %d", c.a.Written(), sign, c.b.Written(), "fut"[got], met)
			}
		}
	}
}

// fixed answers every query with the same values.
type fixed struct {
	values []api.Value
	met    api.Errno
}

// Answer answers a query.
func (f fixed) Answer(*Within, *Frame) (Answer, api.Errno) {
	return Answer{Some: len(f.values) > 0, Values: f.values}, f.met
}

func TestVersus(t *testing.T) {
	one, two, null := api.Int(1), api.Int(2), api.Null{}
	for _, c := range []struct {
		values   []api.Value
		any, all Truth // 1 = any, 1 = all
	}{
		{nil, False, True},
		{[]api.Value{one}, True, True},
		{[]api.Value{two}, False, False},
		{[]api.Value{null}, Unknown, Unknown},
		{[]api.Value{two, one}, True, False},
		{[]api.Value{null, one}, True, Unknown},
		{[]api.Value{two, null}, Unknown, False},
		{[]api.Value{one, null, two}, True, False},
	} {
		f := &Frame{Runner: fixed{values: c.values}}
		some, _ := Versus(Literal(one), "=", "any", nil)(f)
		all, _ := Versus(Literal(one), "=", "all", nil)(f)
		exists, _ := Exists(nil)(f)
		if some != c.any || all != c.all || exists != truth(len(c.values) > 0) {
			t.Errorf("of %v: any %d, all %d, exists %d, want %d, %d", c.values, some, all, exists, c.any, c.all)
		}
	}
}

func TestErrorsOfQueriesWithin(t *testing.T) {
	f := &Frame{Runner: fixed{met: api.ErrDivide}}
	overflow := Negated(Literal(api.Int(math.MinInt64)))
	for _, c := range []struct {
		cond Cond
		want api.Errno
	}{
		{Exists(nil), api.ErrDivide},
		{Versus(Literal(api.Null{}), "=", "any", nil), api.ErrDivide},
		{Versus(overflow, "=", "all", nil), api.ErrOverflow},
		{Logic("and", known(False), Exists(nil)), api.ErrDivide},
		{Logic("or", Exists(nil), IsNull(overflow)), api.ErrOverflow},
		{Not(Exists(nil)), api.ErrDivide},
	} {
		if _, met := c.cond(f); met != c.want {
			t.Errorf("the condition meets %d, want %d", met, c.want)
		}
	}
}
