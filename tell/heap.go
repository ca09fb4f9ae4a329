package tell

import (
	"container/heap"
	"iter"

	"bags/api"
	"bags/bag"
	"bags/order"
)

// counted is a row, and how often it is there.
type counted struct {
	row   []api.Value
	times int
}

// pile is a heap of rows: the first of their order is on top.
type pile []counted

func (p pile) Len() int           { return len(p) }
func (p pile) Less(i, j int) bool { return order.Rows(p[i].row, p[j].row) < 0 }
func (p pile) Swap(i, j int)      { p[i], p[j] = p[j], p[i] }

// Push is for package heap.
func (p *pile) Push(c any) { *p = append(*p, c.(counted)) }

// Pop is for package heap.
func (p *pile) Pop() any {
	last := len(*p) - 1
	c := (*p)[last]
	*p = (*p)[:last]
	return c
}

// ordered goes over the rows of a bag in order, over each as often as it is there.
func ordered(rows *bag.Bag[api.Value]) iter.Seq[[]api.Value] {
	return func(yield func([]api.Value) bool) {
		p := &pile{}
		for row, times := range rows.All() {
			heap.Push(p, counted{row, times})
		}
		for p.Len() > 0 {
			top := heap.Pop(p).(counted)
			for range top.times {
				if !yield(top.row) {
					return
				}
			}
		}
	}
}
