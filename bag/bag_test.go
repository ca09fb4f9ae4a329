package bag

import (
	"maps"
	"math/rand/v2"
	"strings"
	"testing"
)

func row(text string) []string { return strings.Split(text, ",") }

// of is a bag of rows that are written with blanks between, their values with commas between.
func of(text string) *Bag[string] {
	b := New[string]()
	for _, r := range strings.Fields(text) {
		b.add(row(r), 1)
	}
	return b
}

// counts tells how often each row is there.
func counts(b *Bag[string]) map[string]int {
	list := map[string]int{}
	for r, times := range b.All() {
		list[strings.Join(r, ",")] += times
	}
	return list
}

func TestIndex(t *testing.T) {
	x := NewIndex[string]()
	for i, r := range []string{"a,b", "b,a", "a,a", "a", "b,b"} {
		if _, known := x.Find(row(r)); known {
			t.Errorf("%s has a number ahead of its time", r)
		}
		if n := x.Number(row(r)); n != i || x.Len() != i+1 {
			t.Errorf("%s has the number %d of %d, want %d", r, n, x.Len(), i)
		}
	}
	for i, r := range []string{"a,b", "b,a", "a,a", "a", "b,b"} {
		n, known := x.Find(row(r))
		if again := x.Number(row(r)); n != i || !known || again != i || x.Len() != 5 {
			t.Errorf("%s has the number %d, then %d, want %d", r, n, again, i)
		}
	}
	if _, known := x.Find(row("b")); known {
		t.Error("a row whose values are known has a number")
	}
	if n := x.Number(nil); n != 5 || x.Number([]string{}) != 5 {
		t.Errorf("the row of no values has the number %d", n)
	}
}

// With many values their numbers are of several bytes.
func TestIndexOfManyValues(t *testing.T) {
	x := NewIndex[int]()
	for i := range 70000 {
		if n := x.Number([]int{i, -i}); n != i {
			t.Fatalf("the row %d has the number %d", i, n)
		}
	}
	for i := range 70000 {
		if n, known := x.Find([]int{i, -i}); n != i || !known {
			t.Fatalf("the row %d has the number %d", i, n)
		}
	}
}

func TestBag(t *testing.T) {
	b := of("x,1 y,1 x,1 x,2 x,1")
	if got := counts(b); !maps.Equal(got, map[string]int{"x,1": 3, "y,1": 1, "x,2": 1}) {
		t.Errorf("the bag has %v", got)
	}
	for r, want := range map[string]int{"x,1": 3, "y,1": 1, "x,2": 1, "y,2": 0, "z,1": 0, "x": 0} {
		if got := b.Times(row(r)); got != want {
			t.Errorf("%s is there %d times, want %d", r, got, want)
		}
	}
	if b.Empty() || !of("").Empty() {
		t.Error("a bag of rows is empty, or one of none is not")
	}
	if got := counts(Once(b)); !maps.Equal(got, map[string]int{"x,1": 1, "y,1": 1, "x,2": 1}) {
		t.Errorf("each once: the bag has %v", got)
	}
	for range b.All() {
		break // it stops when it is told to
	}
}

func TestPut(t *testing.T) {
	random := rand.New(rand.NewPCG(12, 12))
	for range 200 {
		var sides [2]*Bag[string]
		for i := range sides {
			text := ""
			for range random.IntN(12) {
				text += " " + string("abc"[random.IntN(3)]) + "," + string("ab"[random.IntN(2)])
			}
			sides[i] = of(text)
		}
		// Each row's two numbers are to be seen in how often it comes out.
		got := counts(Put(sides[0], sides[1], func(l, r int) int { return 100*l + r }))
		want := map[string]int{}
		for r, n := range counts(sides[0]) {
			want[r] += 100 * n
		}
		for r, n := range counts(sides[1]) {
			want[r] += n
		}
		if !maps.Equal(got, want) {
			t.Fatalf("put together: %v, want %v", got, want)
		}
	}
	none := Put(of("a b b"), of("b c"), func(l, r int) int { return 0 })
	if !none.Empty() || none.Times(row("b")) != 0 {
		t.Error("rows come out no times, and are there")
	}
}
