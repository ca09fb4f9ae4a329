package run

import (
	"bags/api"
	"bags/bag"
	"bags/plan"
)

// selection answers a selection step by step: an error of one ends it ahead of the next (P10).
func selection(s *plan.Selection, at plan.Frame) (*Bag, api.Errno) {
	left, met := kept(at, s.Entries(), s.Where)
	if met == api.OK && s.Groups {
		left, met = grouped(s, at, left)
	}
	if met == api.OK && s.Groups {
		left, met = kept(at, left, s.Having)
	}
	if met != api.OK {
		return bag.New[api.Value](), met
	}
	rows, met := each(at, left, plan.Row(s.Items))
	if met != api.OK {
		return bag.New[api.Value](), met
	}
	out := bag.New(rows...)
	if s.Distinct {
		out = bag.Once(out)
	}
	return out, api.OK
}

// kept is the entries of which a condition is true.
func kept(at plan.Frame, list []plan.Entry, cond plan.Cond) ([]plan.Entry, api.Errno) {
	truths, met := each(at, list, cond)
	var left []plan.Entry
	for i, entry := range list {
		if truths[i] == plan.True {
			left = append(left, entry)
		}
	}
	return left, met
}
