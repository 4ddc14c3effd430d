package quarry

func (p *parser) query(place int) command {
	q := query{place: place, table: p.name()}
	for p.takeIf(barSign) {
		q.stages = append(q.stages, p.stage())
	}
	return q
}

func (p *parser) stage() stage {
	first := p.take()
	return stage{first.place, p.act(first)}
}

func (p *parser) act(first token) act {
	switch first.kind {
	case whereWord:
		return where{p.formula()}
	case mapWord:
		return remake{list(p, p.remade)}
	case joinWord:
		p.join()
	case groupWord:
		p.group()
	case orderWord:
		list(p, p.orderKey)
	case limitWord:
		return limit{p.must(numberToken).number}
	default:
		p.refuse(first)
	}
	return unbuilt{first.place}
}

func (p *parser) remade() remade {
	column := p.name()
	p.must(equalSign)
	return remade{column, p.formula()}
}

func (p *parser) join() {
	p.name()
	p.must(onWord)
	p.name()
	p.must(equalSign)
	p.name()
}

func (p *parser) group() {
	if !p.nextIs(colonSign) {
		p.names()
	}
	p.must(colonSign)
	list(p, p.made)
}

func (p *parser) made() name {
	column := p.name()
	p.must(equalSign)
	way := p.take()
	switch way.kind {
	case countWord, sumWord, minWord, maxWord:
	default:
		p.refuse(way)
	}
	p.must(openSign)
	if way.kind != countWord || !p.nextIs(closeSign) {
		p.name()
	}
	p.must(closeSign)
	return column
}

func (p *parser) orderKey() name {
	column := p.name()
	p.takeIf(downWord)
	return column
}
