package bags_test

import (
	"math/rand/v2"
	"strconv"
	"strings"
	"testing"

	"bags/bags"
)

// part is a part of a query in two forms: its words as somebody may write them, and as Print must.
type part struct {
	words   []string
	printed string
	binds   int // how tightly: what binds less than is asked for needs brackets
}

// maker makes parts by chance.
type maker struct{ *rand.Rand }

func words(text string) []string { return strings.Fields(text) }

func (p part) add(more string, q part) part {
	return part{words: append(append(append([]string{}, p.words...), words(more)...), q.words...)}
}

func (p part) as(printed string, binds int) part {
	p.printed, p.binds = printed, binds
	return p
}

// inBrackets puts brackets around that are not printed.
func (p part) inBrackets() part {
	return part{words: words("(")}.add("", p).add(")", part{}).as(p.printed, 9)
}

// atLeast puts brackets around what does not bind so tightly, and at times around what does.
func (m maker) atLeast(binds int, p part) part {
	if p.binds < binds || m.IntN(6) == 0 {
		return p.inBrackets()
	}
	return p
}

func (m maker) one(of string) string {
	list := words(of)
	return list[m.IntN(len(list))]
}

// pair joins two parts from the left by one of the signs.
func (m maker) pair(left, right part, signs string, binds int) part {
	sign := strings.ReplaceAll(m.one(signs), "_", " ")
	l, r := m.atLeast(binds, left), m.atLeast(binds+1, right)
	return l.add(sign, r).as("("+l.printed+" "+sign+" "+r.printed+")", binds)
}

func (m maker) column() part {
	if m.IntN(2) == 0 {
		name := m.one("a B_1 _")
		return part{words: words(name), printed: name, binds: 9}
	}
	return part{words: words("t . a"), printed: "t.a", binds: 9}
}

func (m maker) leaf() part {
	switch m.IntN(4) {
	case 0:
		n := strconv.Itoa(m.IntN(100))
		return part{words: []string{strings.Repeat("0", m.IntN(3)) + n}, printed: n, binds: 9}
	case 1:
		text := m.one("'' 'x' 'it''s' '(' '--'")
		return part{words: []string{text}, printed: text, binds: 9}
	case 2:
		return part{words: words("null"), printed: "null", binds: 9}
	}
	return m.column()
}

func (m maker) expr(size int) part {
	if size <= 0 {
		return m.leaf()
	}
	of := m.expr(size - 1)
	switch m.IntN(6) {
	case 0, 1:
		return m.pair(of, m.expr(size-2), "+ -", 1)
	case 2, 3:
		return m.pair(of, m.expr(size-2), "* / %", 2)
	case 4:
		of = m.atLeast(3, of)
		return part{words: words("-")}.add("", of).as("(-"+of.printed+")", 3)
	}
	if m.IntN(3) == 0 {
		return part{words: words("count ( * )"), printed: "count(*)", binds: 9}
	}
	name := m.one("count sum min max")
	return part{words: words(name + " (")}.add("", of).add(")", part{}).as(name+"("+of.printed+")", 9)
}

func (m maker) cond(size int) part {
	if size <= 0 {
		return m.question(0)
	}
	of := m.cond(size - 1)
	switch m.IntN(4) {
	case 0:
		return m.pair(of, m.cond(size-2), "or", 1)
	case 1:
		return m.pair(of, m.cond(size-2), "and", 2)
	case 2:
		of = m.atLeast(3, of)
		return part{words: words("not")}.add("", of).as("(not "+of.printed+")", 3)
	}
	return m.question(size)
}

func (m maker) question(size int) part {
	left, sign := m.atLeast(1, m.expr(size)), m.one("= <> < <= > >=")
	switch m.IntN(5) {
	case 0:
		text := strings.ReplaceAll(m.one("is_null is_not_null"), "_", " ")
		return left.add(text, part{}).as(left.printed+" "+text, 9)
	case 1:
		text := strings.ReplaceAll(m.one("in not_in"), "_", " ")
		return m.asked(left, text, size)
	case 2:
		return m.asked(left, sign+" "+m.one("any all"), size)
	case 3:
		exists := m.asked(part{}, "exists", size)
		exists.printed = strings.TrimPrefix(exists.printed, " ")
		return exists
	}
	right := m.atLeast(1, m.expr(size-1))
	return left.add(sign, right).as(left.printed+" "+sign+" "+right.printed, 9)
}

func (m maker) asked(left part, text string, size int) part {
	q := m.atLeast(1, m.query(size-2))
	return left.add(text+" (", q).add(")", part{}).as(left.printed+" "+text+" ("+q.printed+")", 9)
}

func (m maker) query(size int) part {
	if size > 0 && m.IntN(3) == 0 {
		return m.pair(m.query(size-1), m.query(size-2), "union intersect except union_all intersect_all except_all", 1)
	}
	return m.selection(size)
}

func (m maker) selection(size int) part {
	text := strings.ReplaceAll(m.one("select select_distinct"), "_", " ")
	s := part{words: words(text), printed: text + " *"}
	if m.IntN(4) == 0 {
		s = s.add("*", part{}).as(s.printed, 0)
	} else {
		item := m.expr(size)
		s = s.add("", item).as(text+" "+item.printed, 0)
		s = s.add("as n , a", part{}).as(s.printed+" as n, a", 0)
	}
	s = s.add("from t , u as v", part{}).as(s.printed+" from t, u as v", 0)
	if m.IntN(2) == 0 {
		where := m.atLeast(1, m.cond(size-1))
		s = s.add("where", where).as(s.printed+" where "+where.printed, 0)
	}
	if m.IntN(3) == 0 {
		by := m.column()
		s = s.add("group by a ,", by).as(s.printed+" group by a, "+by.printed, 0)
		having := m.atLeast(1, m.cond(size-2))
		s = s.add("having", having).as(s.printed+" having "+having.printed, 0)
	}
	return s.as(s.printed, 9)
}

// text writes words with all that may stand between.
func (m maker) text(list []string) string {
	b := list[0]
	for i, w := range list[1:] {
		if strings.Contains("(),", w) || strings.Contains("(),", list[i]) {
			b += []string{"", " "}[m.IntN(2)]
		} else {
			b += []string{" ", "\n", "\t", "  ", " --'(\n"}[m.IntN(5)]
		}
		b += w
	}
	return b
}

func TestPrintOfAllForms(t *testing.T) {
	m := maker{rand.New(rand.NewPCG(5, 1))}
	tried := 0
	for range 20000 {
		p := m.query(m.IntN(5))
		query := m.text(p.words)
		if len(query) > 400 || deepest(p.words) > 16 {
			continue
		}
		tried++
		if s, err := bags.Print(query); s != p.printed || err != nil {
			t.Fatalf("P5: Print(%q) = %q, %v, want %q", query, s, err, p.printed)
		}
	}
	if tried < 10000 {
		t.Errorf("only %d queries are short enough", tried)
	}
}

func deepest(list []string) int {
	open, most := 0, 0
	for _, w := range list {
		switch w {
		case "(":
			open++
		case ")":
			open--
		}
		most = max(most, open)
	}
	return most
}
