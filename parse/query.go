package parse

import "bags/tree"

func (p *parser) query() tree.Query {
	return chain(p.core, p.howJoined, func(pair tree.Pair[tree.Query]) tree.Query {
		return tree.Joined{Pair: pair}
	})
}

func (p *parser) howJoined() string {
	sign := p.takeOne("union", "intersect", "except")
	if sign != "" && p.take("all") {
		sign += " all"
	}
	return sign
}

func (p *parser) core() tree.Query {
	if p.is("(") {
		return inBrackets(p, p.query)
	}
	return p.selection()
}

func (p *parser) selection() tree.Query {
	var s tree.Select
	p.must("select")
	s.Distinct = p.take("distinct")
	if !p.take("*") {
		s.Items = list(p, p.item)
	}
	p.must("from")
	s.Sources = list(p, p.source)
	if p.take("where") {
		s.Where = p.cond()
	}
	if p.take("group") {
		p.must("by")
		s.Group = list(p, p.column)
		if p.take("having") {
			s.Having = p.cond()
		}
	}
	return s
}

func (p *parser) item() tree.Item {
	read := p.expr()
	return tree.Item{Expr: read, Alias: p.alias()}
}

func (p *parser) source() tree.Source {
	table := p.name()
	return tree.Source{Table: table, Alias: p.alias()}
}

func (p *parser) alias() tree.Alias {
	if !p.take("as") {
		return tree.Alias{}
	}
	return tree.Alias{As: p.name()}
}

func (p *parser) column() tree.Column {
	name := p.name()
	if !p.take(".") {
		return tree.Column{Name: name}
	}
	return tree.Column{Source: name, Name: p.name()}
}
