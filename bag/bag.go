// Package bag has bags: rows in no order, of which the same one may be there several times.
package bag

import "iter"

// Index numbers rows, from 0, in the order in which they come: the same ones have one number.
type Index[V comparable] struct {
	values map[V]int
	rows   map[string]int
}

// NewIndex has no rows yet.
func NewIndex[V comparable]() *Index[V] {
	return &Index[V]{values: map[V]int{}, rows: map[string]int{}}
}

// Len tells how many rows have a number.
func (x *Index[V]) Len() int { return len(x.rows) }

// Find tells a row's number, if it has one.
func (x *Index[V]) Find(row []V) (int, bool) {
	key, known := x.key(row)
	if !known {
		return 0, false
	}
	number, known := x.rows[key]
	return number, known
}

// Number tells a row's number, which it is given if it has none.
func (x *Index[V]) Number(row []V) int {
	for _, v := range row {
		numbered(x.values, v)
	}
	key, _ := x.key(row)
	return numbered(x.rows, key)
}

// key has the numbers of a row's values, not the values themselves, which may be long texts; it is known if all of them are.
func (x *Index[V]) key(row []V) (string, bool) {
	key := make([]byte, 0, 4*len(row))
	for _, v := range row {
		n, known := x.values[v]
		if !known {
			return "", false
		}
		key = append(key, byte(n), byte(n>>8), byte(n>>16), byte(n>>24))
	}
	return string(key), true
}

// numbered tells the number of a key, the next one if it is new.
func numbered[K comparable](numbers map[K]int, key K) int {
	n, known := numbers[key]
	if !known {
		n = len(numbers)
		numbers[key] = n
	}
	return n
}

// Bag is a bag of rows of such values. The rows are not copied: who hands them in does not write into them.
type Bag[V comparable] struct {
	index *Index[V]
	rows  [][]V // each once
	times []int // how often it is there
}

// New is a bag of these rows.
func New[V comparable](rows ...[]V) *Bag[V] {
	b := &Bag[V]{index: NewIndex[V]()}
	for _, row := range rows {
		b.add(row, 1)
	}
	return b
}

func (b *Bag[V]) add(row []V, times int) {
	if times == 0 {
		return
	}
	n := b.index.Number(row)
	if n == len(b.rows) {
		b.rows, b.times = append(b.rows, row), append(b.times, 0)
	}
	b.times[n] += times
}

// Empty asks if there is no row.
func (b *Bag[V]) Empty() bool { return len(b.rows) == 0 }

// Times tells how often a row is there.
func (b *Bag[V]) Times(row []V) int {
	n, there := b.index.Find(row)
	if !there {
		return 0
	}
	return b.times[n]
}

// All goes over the rows, each once, with how often it is there.
func (b *Bag[V]) All() iter.Seq2[[]V, int] {
	return func(yield func([]V, int) bool) {
		for i, row := range b.rows {
			if !yield(row, b.times[i]) {
				return
			}
		}
	}
}

// Put puts two bags together: times tells how often a row comes out that is so often in the left one, and so often in the right one.
func Put[V comparable](left, right *Bag[V], times func(l, r int) int) *Bag[V] {
	out := New[V]()
	for row, l := range left.All() {
		out.add(row, times(l, right.Times(row)))
	}
	for row, r := range right.All() {
		if left.Times(row) == 0 {
			out.add(row, times(0, r))
		}
	}
	return out
}

// Once is the rows of a bag, each once.
func Once[V comparable](b *Bag[V]) *Bag[V] { return New(b.rows...) }
