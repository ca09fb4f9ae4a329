package parse

import "bags/tree"

func (p *parser) cond() tree.Cond { return chain(p.conj, p.signs("or"), logic) }

func (p *parser) conj() tree.Cond { return chain(p.neg, p.signs("and"), logic) }

func logic(pair tree.Pair[tree.Cond]) tree.Cond { return tree.Logic{Pair: pair} }

func (p *parser) neg() tree.Cond {
	if p.take("not") {
		return tree.Not{Of: p.neg()}
	}
	return p.basic()
}

func (p *parser) basic() tree.Cond {
	switch {
	case p.take("exists"):
		return tree.Exists{Within: p.within()}
	case p.opensCond():
		return inBrackets(p, p.cond)
	}
	return p.question(p.expr())
}

// opensCond asks if the next word is a bracket around a condition, not around an expression: every condition has one of these words, no expression has.
func (p *parser) opensCond() bool {
	open := 0
	for _, w := range p.words[p.at:] {
		open += opened(w)
		if open <= 0 {
			return false
		}
		if isFixed(w, "=", "<>", "<", "<=", ">", ">=", "is", "in", "exists") {
			return true
		}
	}
	return false
}

// question reads what is asked of the expression on its left.
func (p *parser) question(left tree.Expr) tree.Cond {
	if p.take("is") {
		not := p.take("not")
		p.must("null")
		return tree.IsNull{Left: left, Not: not}
	}
	if sign := p.takeOne("=", "<>", "<", "<=", ">", ">="); sign != "" {
		return p.comparison(left, sign)
	}
	not := p.take("not")
	p.must("in")
	return tree.In{Left: left, Not: not, Within: p.within()}
}

func (p *parser) comparison(left tree.Expr, sign string) tree.Cond {
	if which := p.takeOne("any", "all"); which != "" {
		return tree.Versus{Left: left, Sign: sign, Which: which, Within: p.within()}
	}
	return tree.Compare{Pair: tree.Pair[tree.Expr]{Left: left, Sign: sign, Right: p.expr()}}
}

func (p *parser) within() tree.Within {
	return tree.Within{Query: inBrackets(p, p.query)}
}
