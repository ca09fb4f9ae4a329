package plan

import (
	"math"

	"bags/api"
)

// Literal is a value that is written out.
func Literal(v api.Value) Expr {
	return func(*Frame) (api.Value, api.Errno) { return v, api.OK }
}

// Column is the value at a place of the row that is so many queries further out.
func Column(out, place int) Expr {
	return func(f *Frame) (api.Value, api.Errno) {
		for range out {
			f = f.Around
		}
		return f.Row[place], api.OK
	}
}

// Made is what was worked out of the group, by its place in Selection.Made.
func Made(place int) Expr {
	return func(f *Frame) (api.Value, api.Errno) { return f.Made[place], api.OK }
}

// Row is the values of all items.
func Row(items []Expr) Part[[]api.Value] {
	return func(f *Frame) ([]api.Value, api.Errno) {
		row, met := make([]api.Value, len(items)), api.OK
		for i, item := range items {
			v, also := item(f)
			row[i], met = v, Least(met, also)
		}
		return row, met
	}
}

// Negated is the negation of a number.
func Negated(of Expr) Expr {
	return Arith("-", Literal(api.Int(0)), of)
}

// Arith is a sum or a product: null with a null.
func Arith(sign string, left, right Expr) Expr {
	work := operation(sign)
	return func(f *Frame) (api.Value, api.Errno) {
		l, r, met := both(f, left, right)
		a, isA := l.(api.Int)
		b, isB := r.(api.Int)
		if met != api.OK || !isA || !isB {
			return api.Null{}, met
		}
		return work(a, b)
	}
}

func operation(sign string) func(a, b api.Int) (api.Value, api.Errno) {
	switch sign {
	case "+":
		return sum
	case "-":
		return difference
	case "*":
		return product
	case "/":
		return quotient
	}
	return remainder
}

// unless tells a number, unless it wrapped round.
func unless(wrapped bool, n api.Int) (api.Value, api.Errno) {
	if wrapped {
		return api.Null{}, api.ErrOverflow
	}
	return n, api.OK
}

func sum(a, b api.Int) (api.Value, api.Errno) {
	n := a + b
	return unless((n > a) != (b > 0) && b != 0, n)
}

func difference(a, b api.Int) (api.Value, api.Errno) {
	n := a - b
	return unless((n < a) != (b > 0) && b != 0, n)
}

func product(a, b api.Int) (api.Value, api.Errno) {
	n := a * b
	// The quotient of the least number and -1 wraps round too, so it does not show that the product did.
	return unless(a == -1 && b == math.MinInt64 || a != 0 && n/a != b, n)
}

func quotient(a, b api.Int) (api.Value, api.Errno) {
	if b == 0 {
		return api.Null{}, api.ErrDivide
	}
	return unless(a == math.MinInt64 && b == -1, a/b)
}

func remainder(a, b api.Int) (api.Value, api.Errno) {
	if b == 0 {
		return api.Null{}, api.ErrDivide
	}
	return a % b, api.OK
}
