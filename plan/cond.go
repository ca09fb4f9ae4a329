package plan

import (
	"cmp"

	"bags/api"
)

// Truth is how true a condition is, in the order of and and or.
type Truth int

const (
	False Truth = iota
	Unknown
	True
)

// Always is the condition that holds for all.
func Always() Cond {
	return func(*Frame) (Truth, api.Errno) { return True, api.OK }
}

// Not is the negation of a condition.
func Not(of Cond) Cond {
	return func(f *Frame) (Truth, api.Errno) {
		t, met := of(f)
		return True - t, met
	}
}

// Logic is two conditions with and or or between.
func Logic(sign string, left, right Cond) Cond {
	join := greater
	if sign == "and" {
		join = lesser
	}
	return func(f *Frame) (Truth, api.Errno) {
		l, r, met := both(f, left, right)
		return join(l, r), met
	}
}

func lesser(a, b Truth) Truth { return min(a, b) }

func greater(a, b Truth) Truth { return max(a, b) }

// Compare is a comparison of two expressions.
func Compare(sign string, left, right Expr) Cond {
	judge := judged(sign)
	return func(f *Frame) (Truth, api.Errno) {
		l, r, met := both(f, left, right)
		return judge(l, r), met
	}
}

// IsNull asks if there is no value.
func IsNull(of Expr) Cond {
	return func(f *Frame) (Truth, api.Errno) {
		v, met := of(f)
		_, is := v.(api.Null)
		return truth(is), met
	}
}

// Exists asks if a query has rows.
func Exists(q Query) Cond {
	return func(f *Frame) (Truth, api.Errno) {
		rows, met := f.Runner.Answer(q, f)
		return truth(len(rows) > 0), met
	}
}

// Versus is a comparison of an expression with any or all rows of a query, which has one column.
func Versus(left Expr, sign, which string, q Query) Cond {
	judge, join, none := judged(sign), greater, False
	if which == "all" {
		join, none = lesser, True
	}
	return func(f *Frame) (Truth, api.Errno) {
		v, met := left(f)
		rows, also := f.Runner.Answer(q, f)
		t := none
		for _, row := range rows {
			t = join(t, judge(v, row[0]))
		}
		return t, Least(met, also)
	}
}

func truth(holds bool) Truth {
	if holds {
		return True
	}
	return False
}

// judged is the comparison of two values of one type, by its sign.
func judged(sign string) func(a, b api.Value) Truth {
	fits := fitting(sign)
	return func(a, b api.Value) Truth {
		order, known := compared(a, b)
		if !known {
			return Unknown
		}
		return truth(fits(order))
	}
}

// fitting tells which orders (below 0, 0, above 0) a sign asks for.
func fitting(sign string) func(order int) bool {
	switch sign {
	case "=":
		return func(order int) bool { return order == 0 }
	case "<>":
		return func(order int) bool { return order != 0 }
	case "<":
		return func(order int) bool { return order < 0 }
	case "<=":
		return func(order int) bool { return order <= 0 }
	case ">":
		return func(order int) bool { return order > 0 }
	}
	return func(order int) bool { return order >= 0 }
}

// compared tells the order of two values of one type; it is not known if one is null.
func compared(a, b api.Value) (int, bool) {
	switch a := a.(type) {
	case api.Int:
		b, known := b.(api.Int)
		return cmp.Compare(a, b), known
	case api.Text:
		b, known := b.(api.Text)
		return cmp.Compare(a, b), known
	}
	return 0, false
}
