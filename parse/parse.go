// Package parse makes a query's text into its parts (P4). Each function reads what the grammar's line of its name says.
package parse

import (
	"slices"

	"bags/api"
	"bags/fault"
	"bags/tree"
	"bags/words"
)

// parser is the words, and how far they are read.
type parser struct {
	words []words.Word
	at    int
}

// Query reads a query.
func Query(query string) tree.Query {
	p := &parser{words: words.Read(query)}
	q := p.query()
	if p.next().Kind != words.End {
		fail()
	}
	checkDepth(p.words)
	return q
}

func fail() { fault.Throw(api.ErrSyntax, 0) }

func checkDepth(list []words.Word) {
	open := 0
	for _, w := range list {
		open += opened(w)
		if open > api.MaxOpen {
			fault.Throw(api.ErrDeep, 0)
		}
	}
}

// opened counts the brackets that a word leaves open.
func opened(w words.Word) int {
	switch {
	case isFixed(w, "("):
		return 1
	case isFixed(w, ")"):
		return -1
	}
	return 0
}

func isFixed(w words.Word, spelt ...string) bool {
	return w.Kind == words.Fixed && slices.Contains(spelt, w.Spelt)
}

func (p *parser) next() words.Word {
	if p.at < len(p.words) {
		return p.words[p.at]
	}
	return words.Word{Kind: words.End}
}

// step goes on to the next word, and tells the one it left.
func (p *parser) step() words.Word {
	w := p.next()
	p.at++
	return w
}

func (p *parser) is(spelt ...string) bool { return isFixed(p.next(), spelt...) }

// takeOne reads one of these words: "" if none of them is next.
func (p *parser) takeOne(spelt ...string) string {
	if !p.is(spelt...) {
		return ""
	}
	return p.step().Spelt
}

func (p *parser) take(spelt string) bool { return p.takeOne(spelt) != "" }

func (p *parser) must(spelt string) {
	if !p.take(spelt) {
		fail()
	}
}

func (p *parser) name() string {
	if p.next().Kind != words.Name {
		fail()
	}
	return p.step().Spelt
}

// list reads parts with commas between.
func list[T any](p *parser, part func() T) []T {
	parts := []T{part()}
	for p.take(",") {
		parts = append(parts, part())
	}
	return parts
}

// chain reads parts with signs between, from the left: sign reads one, "" if there is none.
func chain[P tree.Part](part func() P, sign func() string, join func(tree.Pair[P]) P) P {
	left := part()
	for s := sign(); s != ""; s = sign() {
		left = join(tree.Pair[P]{Left: left, Sign: s, Right: part()})
	}
	return left
}

// signs reads one of these signs, for chain.
func (p *parser) signs(spelt ...string) func() string {
	return func() string { return p.takeOne(spelt...) }
}

// inBrackets reads a part with brackets around.
func inBrackets[T any](p *parser, part func() T) T {
	p.must("(")
	read := part()
	p.must(")")
	return read
}
