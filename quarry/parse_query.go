package quarry

func (p *parser) query(place int) command {
	q := query{place: place, table: p.name()}
	for p.takeIf(barSign) {
		q.stages = append(q.stages, p.stage())
	}
	return q
}

func (p *parser) stage() stage {
	first := p.take()
	return stage{first.place, p.act(first)}
}

func (p *parser) act(first token) act {
	switch first.kind {
	case whereWord:
		return where{p.formula()}
	case mapWord:
		return remake{list(p, p.remade)}
	case joinWord:
		return p.join()
	case groupWord:
		return p.group()
	case orderWord:
		return order{list(p, p.orderKey)}
	case limitWord:
		return limit{p.must(numberToken).number}
	}
	p.refuse(first)
	return nil
}

func (p *parser) remade() remade {
	column := p.name()
	p.must(equalSign)
	return remade{column, p.formula()}
}

func (p *parser) join() join {
	table := p.name()
	p.must(onWord)
	left := p.name()
	place := p.must(equalSign).place
	return join{table, left, place, p.name()}
}

func (p *parser) group() group {
	var keys []name
	if !p.nextIs(colonSign) {
		keys = p.names()
	}
	p.must(colonSign)
	return group{keys, list(p, p.made)}
}

func (p *parser) made() madeColumn {
	column := p.name()
	p.must(equalSign)
	way := p.take()
	switch way.kind {
	case countWord, sumWord, minWord, maxWord:
	default:
		p.refuse(way)
	}
	p.must(openSign)
	of := p.gathered(way.kind)
	p.must(closeSign)
	return madeColumn{column, way.kind, way.place, of}
}

// gathered answers what a made column goes over: count() counts a constant, which
// is null for no row.
func (p *parser) gathered(way tokenKind) node {
	if way == countWord && p.nextIs(closeSign) {
		return literal{kind: Int}
	}
	return p.name()
}

func (p *parser) orderKey() orderKey {
	return orderKey{p.name(), p.takeIf(downWord)}
}
