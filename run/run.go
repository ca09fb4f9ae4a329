// Package run answers checked queries: which rows come out of them, in no order.
package run

import (
	"bags/api"
	"bags/bag"
	"bags/fault"
	"bags/plan"
)

// Bag is a bag of rows.
type Bag = bag.Bag[api.Value]

// Query answers a query.
func Query(q plan.Query) *Bag {
	rows, met := newRunner().query(q, nil)
	if met != api.OK {
		fault.Throw(met, 0)
	}
	return rows
}

// query answers a query that stands within a condition of which the frame around is looked at (nil: within none). With an error no rows come out.
func (r *runner) query(q plan.Query, around *plan.Frame) (*Bag, api.Errno) {
	switch q := q.(type) {
	case *plan.Joined:
		return r.joined(q, around)
	case *plan.Selection:
		return selection(q, plan.Frame{Around: around, Runner: r, Spread: around != nil && around.Spread})
	}
	panic("a query of no kind")
}

// joined answers both queries, the second whatever the first met (P12).
func (r *runner) joined(j *plan.Joined, around *plan.Frame) (*Bag, api.Errno) {
	left, met := r.query(j.Left, around)
	right, also := r.query(j.Right, around)
	if met = plan.Least(met, also); met != api.OK {
		return bag.New[api.Value](), met
	}
	return bag.Put(left, right, howOften(j.Sign)), api.OK
}

// howOften tells for a sign how often a row comes out that is so often in the left and so often in the right query's rows.
func howOften(sign string) func(l, r int) int {
	switch sign {
	case "union all":
		return func(l, r int) int { return l + r }
	case "intersect all":
		return func(l, r int) int { return min(l, r) }
	case "except all":
		return func(l, r int) int { return max(l-r, 0) }
	case "union":
		return func(l, r int) int { return min(l+r, 1) }
	case "intersect":
		return func(l, r int) int { return min(l, r, 1) }
	}
	return func(l, r int) int { return max(min(l, 1)-r, 0) }
}
