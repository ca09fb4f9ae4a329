// Package tell brings the rows that come out into their order (P14).
package tell

import (
	"bags/api"
	"bags/bag"
	"bags/fault"
)

// Rows tells the rows of a bag in order; a fault is thrown if there are more than may come out.
func Rows(rows *bag.Bag[api.Value], limits ...int) [][]api.Value {
	out := make(chan []api.Value, limit(limits...))
	for row := range ordered(rows) {
		select {
		case out <- row:
		default:
			fault.Throw(api.ErrLimit, 0)
		}
	}
	close(out)
	var list [][]api.Value
	for row := range out {
		list = append(list, row)
	}
	return list
}

// limit is how many rows may come out.
func limit(limits ...int) int {
	if len(limits) == 0 {
		return api.MaxOut
	}
	return min(max(limits[0], 0), api.MaxOut)
}
