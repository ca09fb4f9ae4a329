package run

import (
	"sync"

	"bags/api"
	"bags/bag"
	"bags/plan"
)

// runner answers the queries within conditions too: each once for the same values around it, as they are asked for row by row.
type runner struct {
	lock  sync.Mutex
	known map[*plan.Within]*memory
}

// memory is what a query within answers: for the values at a number of the index, the answer there.
type memory struct {
	asked   *bag.Index[api.Value]
	answers []*answer
}

// answer is what was answered, once it was.
type answer struct {
	once sync.Once
	rows *plan.Bag
	met  api.Errno
}

// mostKept is how many answers of a query within are kept: with many columns around there would be no end of them.
const mostKept = 10000

// Answer answers a query within a condition (P13).
func (r *runner) Answer(w *plan.Within, around *plan.Frame) (*plan.Bag, api.Errno) {
	needed, _ := plan.Row(w.Needs)(around) // columns meet no errors
	a := r.answer(w, needed)
	a.once.Do(func() { a.rows, a.met = r.query(w.Query, around) })
	return a.rows, a.met
}

// answer finds the answer for these values, which may not be there yet.
func (r *runner) answer(w *plan.Within, needed []api.Value) *answer {
	r.lock.Lock()
	defer r.lock.Unlock()
	m, known := r.known[w]
	if !known {
		m = &memory{asked: bag.NewIndex[api.Value]()}
		r.known[w] = m
	}
	if n, asked := m.asked.Find(needed); asked {
		return m.answers[n]
	}
	a := &answer{}
	if len(m.answers) < mostKept {
		m.asked.Number(needed)
		m.answers = append(m.answers, a)
	}
	return a
}
