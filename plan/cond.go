package plan

import (
	"bags/api"
	"bags/order"
)

// Truth is how true a condition is, in the order of and and or.
type Truth int

const (
	False Truth = iota
	Unknown
	True
)

// Always is the condition that holds for all.
func Always() Cond {
	return func(*Frame) (Truth, api.Errno) { return True, api.OK }
}

// Not is the negation of a condition.
func Not(of Cond) Cond {
	return func(f *Frame) (Truth, api.Errno) {
		t, met := of(f)
		return True - t, met
	}
}

// Logic is two conditions with and or or between.
func Logic(sign string, left, right Cond) Cond {
	join := greater
	if sign == "and" {
		join = lesser
	}
	return func(f *Frame) (Truth, api.Errno) {
		l, r, met := both(f, left, right)
		return join(l, r), met
	}
}

func lesser(a, b Truth) Truth { return min(a, b) }

func greater(a, b Truth) Truth { return max(a, b) }

// Compare is a comparison of two expressions.
func Compare(sign string, left, right Expr) Cond {
	judge := judged(sign)
	return func(f *Frame) (Truth, api.Errno) {
		l, r, met := both(f, left, right)
		return judge(l, r), met
	}
}

// IsNull asks if there is no value.
func IsNull(of Expr) Cond {
	return func(f *Frame) (Truth, api.Errno) {
		v, met := of(f)
		return truth(isNull(v)), met
	}
}

// Exists asks if a query has rows.
func Exists(w *Within) Cond {
	return func(f *Frame) (Truth, api.Errno) {
		a, met := f.Runner.Answer(w, f)
		return truth(a.Some), met
	}
}

// Versus is a comparison of an expression with any or all rows of a query, which has one column.
func Versus(left Expr, sign, which string, w *Within) Cond {
	judge, join, none := judged(sign), greater, False
	if which == "all" {
		join, none = lesser, True
	}
	return func(f *Frame) (Truth, api.Errno) {
		v, met := left(f)
		a, also := f.Runner.Answer(w, f)
		t := none
		for _, other := range a.Values {
			t = join(t, judge(v, other))
		}
		return t, Least(met, also)
	}
}

func truth(holds bool) Truth {
	if holds {
		return True
	}
	return False
}

// judged is the comparison of two values of one type, by its sign.
func judged(sign string) func(a, b api.Value) Truth {
	fits := fitting(sign)
	return func(a, b api.Value) Truth {
		if isNull(a) || isNull(b) {
			return Unknown
		}
		return truth(fits(order.Values(a, b)))
	}
}

func isNull(v api.Value) bool { return v == api.Null{} }

// fitting tells which orders (below 0, 0, above 0) a sign asks for.
func fitting(sign string) func(order int) bool {
	switch sign {
	case "=":
		return func(order int) bool { return order == 0 }
	case "<>":
		return func(order int) bool { return order != 0 }
	case "<":
		return func(order int) bool { return order < 0 }
	case "<=":
		return func(order int) bool { return order <= 0 }
	case ">":
		return func(order int) bool { return order > 0 }
	}
	return func(order int) bool { return order >= 0 }
}
