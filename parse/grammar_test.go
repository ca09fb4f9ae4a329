package parse

import (
	"math/rand/v2"
	"slices"
	"strings"
	"testing"

	"bags/api"
)

// A rule tells all the places where it may end that it begins at: the grammar of P4, tried in all ways.
type rule func(in *input, at int) []int

// input is a query's words, and what was found out about them: by a line of the grammar and a place.
type input struct {
	words []string
	found map[string]map[int][]int
}

func word(list ...string) rule {
	return func(in *input, at int) []int {
		if at < len(in.words) && slices.Contains(list, in.words[at]) {
			return []int{at + 1}
		}
		return nil
	}
}

func seq(rules ...rule) rule {
	return func(in *input, at int) []int {
		ends := []int{at}
		for _, r := range rules {
			var next []int
			for _, e := range ends {
				next = append(next, r(in, e)...)
			}
			slices.Sort(next)
			ends = slices.Compact(next)
		}
		return ends
	}
}

func either(rules ...rule) rule {
	return func(in *input, at int) []int {
		var ends []int
		for _, r := range rules {
			ends = append(ends, r(in, at)...)
		}
		slices.Sort(ends)
		return slices.Compact(ends)
	}
}

func maybe(r rule) rule { return either(seq(), r) }

func many(r rule) rule {
	return func(in *input, at int) []int {
		ends := []int{at}
		for i := 0; i < len(ends); i++ {
			for _, e := range r(in, ends[i]) {
				if !slices.Contains(ends, e) {
					ends = append(ends, e)
				}
			}
		}
		return ends
	}
}

// line is the grammar's line of that name.
func line(name string) rule {
	return func(in *input, at int) []int {
		if in.found[name] == nil {
			in.found[name] = map[int][]int{}
		}
		if _, ok := in.found[name][at]; !ok {
			in.found[name][at] = grammar(name)(in, at)
		}
		return in.found[name][at]
	}
}

func grammar(name string) rule {
	queryWithin := seq(word("("), line("query"), word(")"))
	aName := word("a", "t", "x1")
	signs := word("=", "<>", "<", "<=", ">", ">=")
	switch name {
	case "query":
		return seq(line("core"), many(seq(word("union", "intersect", "except"), maybe(word("all")), line("core"))))
	case "core":
		return either(queryWithin, seq(word("select"), maybe(word("distinct")),
			either(word("*"), seq(line("item"), many(seq(word(","), line("item"))))),
			word("from"), line("source"), many(seq(word(","), line("source"))),
			maybe(seq(word("where"), line("cond"))),
			maybe(seq(word("group"), word("by"), line("column"), many(seq(word(","), line("column"))),
				maybe(seq(word("having"), line("cond")))))))
	case "item":
		return seq(line("expr"), maybe(seq(word("as"), aName)))
	case "source":
		return seq(aName, maybe(seq(word("as"), aName)))
	case "column":
		return either(aName, seq(aName, word("."), aName))
	case "cond":
		return seq(line("conj"), many(seq(word("or"), line("conj"))))
	case "conj":
		return seq(line("neg"), many(seq(word("and"), line("neg"))))
	case "neg":
		return either(seq(word("not"), line("neg")), line("basic"))
	case "basic":
		return either(seq(word("("), line("cond"), word(")")), seq(word("exists"), queryWithin),
			seq(line("expr"), word("is"), maybe(word("not")), word("null")),
			seq(line("expr"), maybe(word("not")), word("in"), queryWithin),
			seq(line("expr"), signs, line("expr")),
			seq(line("expr"), signs, word("any", "all"), queryWithin))
	case "expr":
		return seq(line("term"), many(seq(word("+", "-"), line("term"))))
	case "term":
		return seq(line("factor"), many(seq(word("*", "/", "%"), line("factor"))))
	}
	return either(seq(word("-"), line("factor")), word("1", "'('", "null"), line("column"),
		seq(word("("), line("expr"), word(")")), seq(word("count"), word("("), word("*"), word(")")),
		seq(word("count", "sum", "min", "max"), word("("), line("expr"), word(")")))
}

// wanted is the kind that the document asks for.
func wanted(list []string) api.Errno {
	in := &input{words: list, found: map[string]map[int][]int{}}
	if !slices.Contains(line("query")(in, 0), len(list)) {
		return api.ErrSyntax
	}
	open := 0
	for _, w := range list {
		switch w {
		case "(":
			open++
		case ")":
			open--
		}
		if open > 16 {
			return api.ErrDeep
		}
	}
	return api.OK
}

// kind reads a query and tells its fault's kind. A panic that is no fault is a mistake, and passes.
func kind(query string) (k api.Errno) {
	defer func() {
		if met := recover(); met != nil {
			k = met.(*api.Fault).Kind
		}
	}()
	Query(query)
	return api.OK
}

func TestQueryAsTheGrammarSays(t *testing.T) {
	random := rand.New(rand.NewPCG(4, 1))
	starts := []string{
		"select a from t",
		"select distinct * from t , t as x1 where ( a = 1 and ( a = '(' ) )",
		"select a + a * - 1 , count ( * ) as x1 from t as a where not a = 1 or a in ( select 1 from t )",
		"( select x1 . a from x1 ) union all select 1 from t group by t . a , a having max ( ( a ) ) >= all ( select 1 from t )",
		"( select a from t ) except ( ( select a from t intersect select null from t ) )",
		"select ( a ) from t where ( ( a ) ) * 1 <> any ( select null from t ) and ( ( a is not null or exists ( ( select a from t ) ) ) )",
		"select - ( a - a ) from t where ( ( a ) not in ( select sum ( a / 1 ) from t ) ) group by a having not not ( min ( a ) % a ) < 1",
		"select a from t where " + strings.Repeat("( ", 14) + "a = ( ( a ) ) " + strings.Repeat(") ", 14) + "or a = 1",
		"select a from t where " + strings.Repeat("( ", 17) + "a " + strings.Repeat(") ", 17) + "= 1",
	}
	vocabulary := strings.Fields("select distinct from where group by having as union intersect except all any and or not exists in is null count sum min max a t x1 1 '(' ( ) , . * + - / % = <> < <= > >=")
	met := map[api.Errno]int{}
	for range 20000 {
		list := strings.Fields(starts[random.IntN(len(starts))])
		for range random.IntN(4) {
			list = changed(random, list, vocabulary)
		}
		query := strings.Join(list, " ")
		got, want := kind(query), wanted(list)
		if got != want {
			t.Fatalf("P4: %q is of the kind %d, want %d", query, got, want)
		}
		met[want]++
	}
	if min(met[api.OK], met[api.ErrSyntax], met[api.ErrDeep]) < 500 {
		t.Errorf("the queries are too much of one kind: %v", met)
	}
}

// changed takes a word out, puts one in, another in its place, a bracket around some, or some again elsewhere.
func changed(random *rand.Rand, list, vocabulary []string) []string {
	at := random.IntN(len(list) + 1)
	end := min(len(list), at+1+random.IntN(6))
	other := vocabulary[random.IntN(len(vocabulary))]
	head, part, tail := list[:at], list[at:end], list[end:]
	switch random.IntN(5) {
	case 0:
		return slices.Concat(head, list[min(at+1, len(list)):])
	case 1:
		return slices.Concat(head, []string{other}, list[at:])
	case 2:
		return slices.Concat(head, []string{other}, list[min(at+1, len(list)):])
	case 3:
		return slices.Concat(head, []string{"("}, part, []string{")"}, tail)
	}
	to := random.IntN(len(list) + 1)
	return slices.Concat(list[:to], part, list[to:])
}

func TestQueryOfManyBrackets(t *testing.T) {
	for _, c := range []struct {
		query string
		want  api.Errno
	}{
		{strings.Repeat("(", 400), api.ErrSyntax},
		{strings.Repeat(")", 400), api.ErrSyntax},
		{"select a from t where " + strings.Repeat("(", 378), api.ErrSyntax},
		{"select " + strings.Repeat("- ", 190) + "a from t", api.OK},
		{"select a from t where " + strings.Repeat("not ", 90) + "a = 1", api.OK},
		{"select a from t where " + strings.Repeat("(", 180) + "a=1" + strings.Repeat(")", 180), api.ErrDeep},
		{"select a from t where " + strings.Repeat("(", 180) + "a" + strings.Repeat(")", 180) + "=1", api.ErrDeep},
	} {
		if got := kind(c.query); got != c.want {
			t.Errorf("P4: %.40q is of the kind %d, want %d", c.query, got, c.want)
		}
	}
}
