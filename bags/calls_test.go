package bags_test

import (
	"math/rand/v2"
	"strings"
	"sync"
	"testing"

	"bags/plain"
)

// strange makes inputs of all kinds: each byte alone, all beginnings of right inputs, and these with bytes changed.
func strange() []string {
	right := []string{
		"select a+b*-2,count ( * ) as n from t as x where not a=1 or b in(select 1 from u)",
		"(select x.a from x) union all select 1 from y group by y.b having max((b))>=all(select 1 from z)",
		"select 'it''s' from t -- all\nwhere a is not null",
		"table t a int b text\nrow 1 'x'\nrow null 'it''s'\ntable u c int\nrow -7",
	}
	list := []string{strings.Repeat("(", 400), strings.Repeat("'", 400), strings.Repeat("(", 100000), strings.Repeat("row ", 1000), strings.Repeat("\n", 4000)}
	for b := range 256 {
		list = append(list, string([]byte{byte(b)}))
	}
	random := rand.New(rand.NewPCG(1, 1))
	for _, s := range right {
		for i := range len(s) {
			list = append(list, s[:i], s[i:])
		}
		for range 2000 {
			b := []byte(s)
			b[random.IntN(len(b))] = byte(random.IntN(256))
			b[random.IntN(len(b))] = b[random.IntN(len(b))]
			list = append(list, string(b))
		}
	}
	return list
}

// answer is what Open, Print and Query tell of one input.
type answer struct {
	openKind, openAt   int
	printed            string
	printKind, printAt int
	queryKind, queryAt int
}

func ask(s string) answer {
	var a answer
	a.openKind, a.openAt = plain.Open(s)
	a.printed, a.printKind, a.printAt = plain.Print(s)
	_, _, a.queryKind, a.queryAt = plain.Run("table t a int b int\ntable u b int\ntable x a int\n", s, nil)
	return a
}

func TestEveryCallEnds(t *testing.T) {
	for _, s := range strange() {
		a := ask(s)
		if a.openKind != 0 && a.openKind != 1 {
			t.Errorf("P1: Open(%.60q) tells the kind %d", s, a.openKind)
		}
		if a.printKind != 0 && (a.printKind < 2 || a.printKind > 4) {
			t.Errorf("P1: Print(%.60q) tells the kind %d", s, a.printKind)
		}
		if a.queryKind != 0 && (a.queryKind < 2 || a.queryKind > 9) {
			t.Errorf("P1: Query(%.60q) tells the kind %d", s, a.queryKind)
		}
		if a.printKind != 0 && (a.queryKind != a.printKind || a.queryAt != a.printAt) {
			t.Errorf("P1: Query(%.60q) tells the kind %d at %d, Print %d at %d", s, a.queryKind, a.queryAt, a.printKind, a.printAt)
		}
	}
}

// A query that was refused, or answered, changes nothing for the next one.
func TestQueriesOneBehindTheOther(t *testing.T) {
	queries := []string{"select id from town", "select nobody from town", "select -name from town", "select # from town", "select count(*) from person group by town"}
	for _, first := range queries {
		for _, second := range queries {
			_, _, alone, _ := plain.Run(towns, second, nil)
			if _, behind := plain.Two(towns, first, second); behind != alone {
				t.Errorf("P1: Query(%q) tells the kind %d, behind %q %d", second, alone, first, behind)
			}
		}
	}
}

func TestAnswersHangOnArgumentsAlone(t *testing.T) {
	list := strange()
	first := make([]answer, len(list))
	for i, s := range list {
		first[i] = ask(s)
	}
	var group sync.WaitGroup
	for range 4 {
		group.Go(func() {
			for i := len(list) - 1; i >= 0; i-- {
				if again := ask(list[i]); again != first[i] {
					t.Errorf("P1: of %.60q is told %v, then %v", list[i], first[i], again)
				}
			}
		})
	}
	group.Wait()
}
