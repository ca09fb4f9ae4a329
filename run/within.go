package run

import (
	"sync"

	"bags/api"
	"bags/bag"
	"bags/plan"
)

// runner answers the queries within conditions too: each once for the same values around it, as it is asked for row by row.
type runner struct {
	lock  sync.Mutex
	known map[*plan.Within]*memory
	room  int // how many values may still be kept
}

// memory is what a query within answers: for the values that have a number in the index, the answer at that place.
type memory struct {
	index   *bag.Index[api.Value]
	answers []*answer
}

// answer is what was answered, once it was.
type answer struct {
	once sync.Once
	plan.Answer
	met api.Errno
}

// room is how many values are kept: of a query that hangs on many columns there would be no end of answers.
const room = 200000

func newRunner() *runner { return &runner{known: map[*plan.Within]*memory{}, room: room} }

// Answer answers a query within a condition (P13).
func (r *runner) Answer(w *plan.Within, around *plan.Frame) (plan.Answer, api.Errno) {
	needed, _ := plan.Row(w.Needs)(around) // columns meet no errors
	a := r.find(w, needed)
	a.once.Do(func() {
		rows, met := r.query(w.Query, around)
		a.Answer, a.met = asked(rows), met
		r.spend(len(a.Values))
	})
	return a.Answer, a.met
}

// asked is what conditions ask of rows: no more of them is kept.
func asked(rows *Bag) plan.Answer {
	a := plan.Answer{Some: !rows.Empty()}
	for row := range rows.All() {
		if len(row) == 1 {
			a.Values = append(a.Values, row[0])
		}
	}
	return a
}

// find finds the answer for these values, which may not be there yet.
func (r *runner) find(w *plan.Within, needed []api.Value) *answer {
	r.lock.Lock()
	defer r.lock.Unlock()
	m, known := r.known[w]
	if !known {
		m = &memory{index: bag.NewIndex[api.Value]()}
		r.known[w] = m
	}
	if n, known := m.index.Find(needed); known {
		return m.answers[n]
	}
	a := &answer{}
	if r.room > 0 {
		r.room -= 1 + len(needed)
		m.index.Number(needed)
		m.answers = append(m.answers, a)
	}
	return a
}

func (r *runner) spend(values int) {
	r.lock.Lock()
	defer r.lock.Unlock()
	r.room -= values
}
