// Package fault carries a fault from where it is met to the call that tells it.
package fault

import "bags/api"

// Throw ends the work under way; the Catch around it answers the fault.
func Throw(kind api.Errno, at int) {
	panic(&api.Fault{Kind: kind, At: at})
}

// Catch does the work: its answer, or the fault that it threw. No call may panic (P1), so a panic that is no fault is told as one too, of the kind other.
func Catch[T any](other api.Errno, work func() T) (answer T, err error) {
	defer func() {
		switch met := recover().(type) {
		case nil:
		case *api.Fault:
			err = met
		default:
			err = &api.Fault{Kind: other}
		}
	}()
	return work(), nil
}

// Again throws the first of these faults that is one: they were caught where they could not go on.
func Again(faults ...error) {
	for _, err := range faults {
		if err != nil {
			panic(err)
		}
	}
}
