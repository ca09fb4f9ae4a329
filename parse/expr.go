package parse

import (
	"bags/api"
	"bags/tree"
	"bags/words"
)

func (p *parser) expr() tree.Expr { return chain(p.term, p.signs("+", "-"), arith) }

func (p *parser) term() tree.Expr { return chain(p.factor, p.signs("*", "/", "%"), arith) }

func arith(pair tree.Pair[tree.Expr]) tree.Expr { return tree.Arith{Pair: pair} }

func (p *parser) factor() tree.Expr {
	switch {
	case p.take("-"):
		return tree.Negated{Of: p.factor()}
	case p.take("null"):
		return tree.Literal{Value: api.Null{}}
	case p.next().Kind == words.Literal:
		return tree.Literal{Value: p.step().Value}
	case p.is("("):
		return inBrackets(p, p.expr)
	case p.is("count", "sum", "min", "max"):
		return p.aggregate()
	}
	return p.column()
}

func (p *parser) aggregate() tree.Expr {
	name := p.step().Spelt
	of := inBrackets(p, func() tree.Expr {
		if name == "count" && p.take("*") {
			return nil
		}
		return p.expr()
	})
	return tree.Aggregate{Name: name, Of: of}
}
