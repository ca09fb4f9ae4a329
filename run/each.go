package run

import (
	"sync"

	"bags/api"
	"bags/fault"
	"bags/plan"
)

// share is how many entries a goroutine goes through: for fewer no other one is worth it.
const share = 64

// each works a part out for all entries: what it is of each, or the least error that was met.
func each[T any](at plan.Frame, list []plan.Entry, part plan.Part[T]) ([]T, api.Errno) {
	values, met := make([]T, len(list)), make([]api.Errno, len(list))
	work := func(from, to int) {
		f := at
		for i := from; i < to; i++ {
			f.Entry = list[i]
			values[i], met[i] = part(&f)
		}
	}
	if at.Spread || len(list) <= share {
		work(0, len(list))
	} else {
		at.Spread = true
		spread(len(list), work)
	}
	return values, plan.Least(met...)
}

// spread has goroutines do a work for all places below n, each for a share of them.
func spread(n int, work func(from, to int)) {
	faults := make([]error, (n+share-1)/share)
	var group sync.WaitGroup
	for i := range faults {
		group.Go(func() {
			// A panic that leaves its goroutine ends the program, so it is caught there, and told in the caller's.
			_, faults[i] = fault.Catch(api.ErrType, func() int {
				work(i*share, min((i+1)*share, n))
				return 0
			})
		})
	}
	group.Wait()
	fault.Again(faults...)
}
