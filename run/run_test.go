package run

import (
	"errors"
	"slices"
	"sync"
	"testing"

	"bags/api"
	"bags/bag"
	"bags/fault"
	"bags/plan"
	"bags/tables"
)

// numbers is entries of one value each, from 0.
func numbers(n int) []plan.Entry {
	list := make([]plan.Entry, n)
	for i := range list {
		list[i].Row = []api.Value{api.Int(i)}
	}
	return list
}

func TestEach(t *testing.T) {
	for _, n := range []int{0, 1, share - 1, share, share + 1, 2 * share, 2*share + 1, 1728} {
		for _, spread := range []bool{false, true} {
			values, met := each(plan.Frame{Spread: spread}, numbers(n), plan.Column(0, 0))
			if len(values) != n || met != api.OK {
				t.Fatalf("of %d entries come %d values, %d", n, len(values), met)
			}
			for i, v := range values {
				if v != api.Int(i) {
					t.Fatalf("of %d entries the one at %d is %v", n, i, v)
				}
			}
		}
	}
}

// Whichever entries meet errors, all of them count.
func TestLeastOfAllErrors(t *testing.T) {
	const n = 5 * share
	for at := range n {
		part := func(f *plan.Frame) (int, api.Errno) {
			switch f.Row[0] {
			case api.Int(at):
				return 0, api.ErrOverflow
			case api.Int(n - 1 - at):
				return 0, api.ErrDivide
			}
			return 0, api.OK
		}
		if _, met := each(plan.Frame{}, numbers(n), part); met != api.ErrOverflow {
			t.Errorf("P10: with the errors at %d and %d the error %d is told", at, n-1-at, met)
		}
	}
}

func TestManyGoroutinesLook(t *testing.T) {
	// Each of the first two waits for the other: one goroutine alone would not end.
	var both sync.WaitGroup
	both.Add(2)
	part := func(f *plan.Frame) (int, api.Errno) {
		if f.Row[0] == api.Int(0) || f.Row[0] == api.Int(share) {
			both.Done()
			both.Wait()
		}
		return 0, api.OK
	}
	each(plan.Frame{}, numbers(2*share), part)
	// So it is within a query of which one goroutine alone looks at the condition.
	both.Add(2)
	each(plan.Frame{Around: &plan.Frame{}}, numbers(2*share), part)
}

// What a goroutine asks for among others is not spread again: it goes through one row behind the other.
func TestGoroutinesDoNotGrowWithTheDepth(t *testing.T) {
	for _, c := range []struct {
		rows   int
		around bool
		spread bool
	}{{share, false, false}, {share + 1, false, true}, {share, true, true}, {3 * share, true, true}} {
		values, _ := each(plan.Frame{Spread: c.around}, numbers(c.rows), func(f *plan.Frame) (bool, api.Errno) { return f.Spread, api.OK })
		if slices.Contains(values, !c.spread) {
			t.Errorf("of %d rows (spread around: %v) some are not marked %v", c.rows, c.around, c.spread)
		}
	}
	for _, spread := range []bool{false, true} {
		within := false
		see := func(f *plan.Frame) (plan.Truth, api.Errno) {
			within = f.Spread
			return plan.True, api.OK
		}
		newRunner().query(&plan.Selection{Sources: one(), Where: see}, &plan.Frame{Spread: spread})
		if within != spread {
			t.Errorf("the query within is marked %v, the one around %v", within, spread)
		}
	}
	var seen []int
	each(plan.Frame{Spread: true}, numbers(3*share), func(f *plan.Frame) (int, api.Errno) {
		n, _ := f.Row[0].(api.Int)
		seen = append(seen, int(n))
		return 0, api.OK
	})
	if len(seen) != 3*share || !slices.IsSorted(seen) {
		t.Errorf("the rows are gone through as %v", seen)
	}
}

func TestPanicOfAGoroutine(t *testing.T) {
	_, err := fault.Catch(api.ErrData, func() int {
		spread(3*share, func(from, to int) {
			if from == share {
				panic("no fault")
			}
		})
		return 0
	})
	if !errors.Is(err, api.ErrType) {
		t.Errorf("P1: a panic of a goroutine is told as %v", err)
	}
}

func TestSumIsExact(t *testing.T) {
	const high, low = api.Int(1<<63 - 1), api.Int(-1 << 63)
	for _, c := range []struct {
		values []api.Value
		want   api.Value
		met    api.Errno
	}{
		{[]api.Value{high, high, low, low, api.Int(2)}, api.Int(0), api.OK},
		{[]api.Value{high, api.Int(1), api.Int(-1)}, high, api.OK},
		{[]api.Value{high, api.Int(1)}, api.Null{}, api.ErrOverflow},
		{[]api.Value{low, api.Int(-1)}, api.Null{}, api.ErrOverflow},
		{[]api.Value{low}, low, api.OK},
		{[]api.Value{high, high, api.Int(2)}, api.Null{}, api.ErrOverflow}, // 2^64: 0, were it of 64 bits
	} {
		if got, met := sum(c.values); got != c.want || met != c.met {
			t.Errorf("P11: the sum of %v is %v, %d, want %v, %d", c.values, got, met, c.want, c.met)
		}
	}
}

// counting is a query within that counts how often its rows are gone through.
func counting(times *int, needs ...plan.Expr) *plan.Within {
	count := func(*plan.Frame) (plan.Truth, api.Errno) {
		*times++
		return plan.True, api.OK
	}
	return &plan.Within{Query: &plan.Selection{Sources: one(), Where: count}, Needs: needs}
}

func TestAnsweredOnceForTheSameValues(t *testing.T) {
	r := newRunner()
	var alone, hanging int
	a, h := counting(&alone), counting(&hanging, plan.Column(0, 0))
	for i := range 30 {
		f := &plan.Frame{Entry: plan.Entry{Row: []api.Value{api.Int(i % 3)}}}
		for _, w := range []*plan.Within{a, h} {
			if answer, met := r.Answer(w, f); !answer.Some || met != api.OK {
				t.Errorf("P13: the query within answers %v, %d", answer, met)
			}
		}
	}
	if alone != 1 || hanging != 3 {
		t.Errorf("the queries within are answered %d and %d times, want 1 and 3", alone, hanging)
	}
}

// A query within whose answers are too many to be kept is answered all the same.
func TestAnswersBeyondThoseKept(t *testing.T) {
	r := newRunner()
	w := &plan.Within{Query: &plan.Selection{Sources: one(), Where: plan.Always(), Items: []plan.Expr{plan.Column(1, 0)}}, Needs: []plan.Expr{plan.Column(0, 0)}}
	for range 2 {
		for i := range room / 2 {
			row := []api.Value{api.Int(i)}
			answer, met := r.Answer(w, &plan.Frame{Entry: plan.Entry{Row: row}})
			if !slices.Equal(answer.Values, row) || !answer.Some || met != api.OK {
				t.Fatalf("P13: for %d the query within answers %v, %d", i, answer, met)
			}
		}
	}
	if kept := len(r.known[w].answers); kept < room/4 || kept > room/3+1 {
		t.Errorf("%d answers are kept", kept)
	}
}

func TestWhatConditionsAsk(t *testing.T) {
	one, two := []api.Value{api.Int(1)}, []api.Value{api.Int(2)}
	for _, c := range []struct {
		rows   [][]api.Value
		values []api.Value
	}{
		{nil, nil},
		{[][]api.Value{one, two, one}, []api.Value{api.Int(1), api.Int(2)}},
		{[][]api.Value{{api.Int(1), api.Int(2)}}, nil},
	} {
		if a := asked(bag.New(c.rows...)); a.Some != (len(c.rows) > 0) || !slices.Equal(a.Values, c.values) {
			t.Errorf("P13: of %v is asked %v, want %v", c.rows, a, c.values)
		}
	}
}

func TestNoRowsWithAnError(t *testing.T) {
	overflow := func(*plan.Frame) (plan.Truth, api.Errno) { return plan.True, api.ErrOverflow }
	wrong := &plan.Selection{Sources: one(), Where: overflow}
	right := &plan.Selection{Sources: one(), Where: plan.Always()}
	for _, q := range []plan.Query{wrong, &plan.Joined{Left: wrong, Sign: "union", Right: right}, &plan.Joined{Left: right, Sign: "union all", Right: wrong}} {
		if rows, met := newRunner().query(q, nil); !rows.Empty() || met != api.ErrOverflow {
			t.Errorf("P12: with an error come %v, %d", rows, met)
		}
		_, err := fault.Catch(api.ErrData, func() *Bag { return Query(q) })
		if !errors.Is(err, api.ErrOverflow) {
			t.Errorf("P10: the error is told as %v", err)
		}
	}
}

// one is a source of one row.
func one() []*tables.Table {
	return []*tables.Table{{Rows: [][]api.Value{{api.Int(1)}}}}
}
