package quarry

// formula is an expression and the place of its first token, which may be a
// bracket that stands for no node.
type formula struct {
	place int
	root  node
}

func (p *parser) formula() formula {
	place := p.next().place
	return formula{place, p.either()}
}

// enter takes a token that nests what follows; leave tells that this has ended.
func (p *parser) enter() token {
	t := p.take()
	if p.depth == maxDepth {
		p.fail(fault{ErrDeep, t.place})
	}
	p.depth++
	return t
}

func (p *parser) leave() { p.depth-- }

func (p *parser) either() node { return p.chain(p.both, orWord) }

func (p *parser) both() node { return p.chain(p.deny, andWord) }

func (p *parser) total() node { return p.chain(p.part, plusSign, minusSign) }

func (p *parser) part() node { return p.chain(p.turn, timesSign, overSign, restSign) }

func (p *parser) chain(link func() node, signs ...tokenKind) node {
	left := link()
	for p.nextIs(signs...) {
		left = p.rightOf(left, link)
	}
	return left
}

func (p *parser) rightOf(left node, link func() node) node {
	sign := p.take()
	return double{operators[sign.kind], sign.place, left, link()}
}

func (p *parser) deny() node {
	if p.nextIs(notWord) {
		return p.nested(not, p.deny)
	}
	return p.test()
}

func (p *parser) turn() node {
	if p.nextIs(minusSign) {
		return p.nested(negative, p.turn)
	}
	return p.atom()
}

func (p *parser) nested(o operator, link func() node) node {
	sign := p.enter()
	part := link()
	p.leave()
	return single{o, sign.place, part}
}

func (p *parser) test() node {
	left := p.total()
	switch {
	case p.nextIs(equalSign, unequalSign, belowSign, atMostSign, aboveSign, atLeastSign):
		return p.rightOf(left, p.total)
	case p.takeIf(isWord):
		negated := p.takeIf(notWord)
		p.must(nullWord)
		return nullTest{left, negated}
	}
	return left
}

func (p *parser) atom() node {
	if p.nextIs(openSign) {
		return p.bracket()
	}
	t := p.take()
	if t.kind == nameToken {
		return name{t.text, t.place}
	}
	kind, cell, found := constant(t)
	if !found {
		p.refuse(t)
	}
	return literal{kind, cell}
}

func (p *parser) bracket() node {
	p.enter()
	inside := p.either()
	p.must(closeSign)
	p.leave()
	return inside
}
