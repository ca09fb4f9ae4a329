package run

import (
	"math/big"
	"slices"

	"bags/api"
	"bags/bag"
	"bags/order"
	"bags/plan"
)

// grouped puts rows together, and works out of each group what is counted, summed and so on (P11).
func grouped(s *plan.Selection, at plan.Frame, list []plan.Entry) ([]plan.Entry, api.Errno) {
	var groups []plan.Entry
	met := api.OK
	for _, members := range together(s.Keys, list) {
		var group plan.Entry
		if len(members) > 0 {
			group.Row = members[0].Row
		}
		for _, a := range s.Made {
			v, also := made(a, at, members)
			group.Made, met = append(group.Made, v), plan.Least(met, also)
		}
		groups = append(groups, group)
	}
	return groups, met
}

// together is the groups, each by its rows.
func together(keys []int, list []plan.Entry) [][]plan.Entry {
	if len(keys) == 0 {
		return [][]plan.Entry{list} // all are one group, of no rows too
	}
	var groups [][]plan.Entry
	index := bag.NewIndex[api.Value]()
	for _, entry := range list {
		n := index.Number(picked(entry.Row, keys))
		if n == len(groups) {
			groups = append(groups, nil)
		}
		groups[n] = append(groups[n], entry)
	}
	return groups
}

func picked(row []api.Value, places []int) []api.Value {
	values := make([]api.Value, len(places))
	for i, place := range places {
		values[i] = row[place]
	}
	return values
}

// made counts, sums and so on the values that are not null. Where one of them met an error, there is nothing to be summed.
func made(a plan.Aggregate, at plan.Frame, members []plan.Entry) (api.Value, api.Errno) {
	values, met := each(at, members, a.Of)
	values = slices.DeleteFunc(values, func(v api.Value) bool { return v == api.Null{} })
	switch {
	case met != api.OK || a.Name != "count" && len(values) == 0:
		return api.Null{}, met
	case a.Name == "count":
		return api.Int(len(values)), api.OK
	case a.Name == "min":
		return slices.MinFunc(values, order.Values), api.OK
	case a.Name == "max":
		return slices.MaxFunc(values, order.Values), api.OK
	}
	return sum(values)
}

// sum is exact, as numbers behind may bring back what goes beyond 64 bits on the way.
func sum(values []api.Value) (api.Value, api.Errno) {
	total := new(big.Int)
	for _, v := range values {
		n, _ := v.(api.Int)
		total.Add(total, big.NewInt(int64(n)))
	}
	if !total.IsInt64() {
		return api.Null{}, api.ErrOverflow
	}
	return api.Int(total.Int64()), api.OK
}
