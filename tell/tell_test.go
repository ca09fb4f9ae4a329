package tell

import (
	"errors"
	"math"
	"math/rand/v2"
	"slices"
	"testing"

	"bags/api"
	"bags/bag"
	"bags/fault"
	"bags/order"
)

func TestRowsInOrder(t *testing.T) {
	random := rand.New(rand.NewPCG(14, 14))
	for size := range 300 {
		var rows [][]api.Value
		for range size {
			rows = append(rows, []api.Value{api.Int(random.IntN(9)), api.Text("abc"[random.IntN(3):])})
		}
		got := Rows(bag.New(rows...))
		slices.SortFunc(rows, order.Rows)
		if !slices.EqualFunc(got, rows, slices.Equal) {
			t.Fatalf("P14: of %d rows come %v, want %v", size, got, rows)
		}
	}
}

func TestLimit(t *testing.T) {
	for _, c := range []struct {
		limits []int
		want   int
	}{
		{nil, 2000},
		{[]int{}, 2000},
		{[]int{0}, 0},
		{[]int{-1}, 0},
		{[]int{math.MinInt}, 0},
		{[]int{7}, 7},
		{[]int{7, 8}, 7},
		{[]int{8, 7}, 8},
		{[]int{2000}, 2000},
		{[]int{2001}, 2000},
		{[]int{math.MaxInt, 1}, 2000},
	} {
		if got := limit(c.limits...); got != c.want {
			t.Errorf("P14: the limits %d say %d, want %d", c.limits, got, c.want)
		}
	}
}

func TestMoreThanMayComeOut(t *testing.T) {
	for size := range 5 {
		rows := bag.New(slices.Repeat([][]api.Value{{api.Int(1)}}, size)...)
		for most := range 5 {
			list, err := fault.Catch(api.ErrData, func() [][]api.Value { return Rows(rows, most) })
			if errors.Is(err, api.ErrLimit) != (size > most) || err == nil && len(list) != size {
				t.Errorf("P14: of %d rows, if %d may come out: %v, %v", size, most, list, err)
			}
		}
	}
}
