// Package order has the order of values and rows (P14).
package order

import (
	"cmp"
	"slices"

	"bags/api"
)

// Values tells if a is ahead of b (below 0), the same (0) or behind it: null stands ahead of numbers, these ahead of texts.
func Values(a, b api.Value) int {
	switch a := a.(type) {
	case api.Int:
		if b, is := b.(api.Int); is {
			return cmp.Compare(a, b)
		}
	case api.Text:
		if b, is := b.(api.Text); is {
			return cmp.Compare(a, b)
		}
	}
	return cmp.Compare(rank(a), rank(b))
}

func rank(v api.Value) int {
	switch v.(type) {
	case api.Int:
		return 1
	case api.Text:
		return 2
	}
	return 0
}

// Rows tells the order of two rows: that of the first values that are not the same.
func Rows(a, b []api.Value) int {
	return slices.CompareFunc(a, b, Values)
}
