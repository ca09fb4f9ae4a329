package order

import (
	"math"
	"testing"

	"bags/api"
)

// listed is values in their order.
func listed() []api.Value {
	return []api.Value{
		api.Null{},
		api.Int(math.MinInt64), api.Int(-10), api.Int(-9), api.Int(0), api.Int(9), api.Int(10), api.Int(math.MaxInt64),
		api.Text(""), api.Text("\x00"), api.Text("10"), api.Text("9"), api.Text("B"), api.Text("a"), api.Text("ab"), api.Text("b"), api.Text("\u00e9"), api.Text("\xff"),
	}
}

func sign(n int) int { return max(-1, min(n, 1)) }

func TestValues(t *testing.T) {
	for i, a := range listed() {
		for j, b := range listed() {
			if got := sign(Values(a, b)); got != sign(i-j) {
				t.Errorf("P14: the order of %s and %s is %d", a.Written(), b.Written(), got)
			}
		}
	}
}

func TestRows(t *testing.T) {
	var rows [][]api.Value
	for _, a := range listed() {
		for _, b := range listed() {
			rows = append(rows, []api.Value{a, b})
		}
	}
	for i, a := range rows {
		for j, b := range rows {
			if got := sign(Rows(a, b)); got != sign(i-j) {
				t.Errorf("P14: the order of %v and %v is %d", a, b, got)
			}
		}
	}
}
