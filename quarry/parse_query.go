package quarry

func (p *parser) query(place int) command {
	q := query{place: place, table: p.name()}
	for p.takeIf(barSign) {
		q.stages = append(q.stages, p.stage())
	}
	return q
}

// Of a stage no more is kept than where it begins: it is read to find the first
// fault of the text, and no query is worked out beyond its `from` yet.
func (p *parser) stage() stage {
	first := p.take()
	switch first.kind {
	case whereWord:
		p.formula()
	case mapWord:
		list(p, p.mapped)
	case joinWord:
		p.join()
	case groupWord:
		p.group()
	case orderWord:
		list(p, p.orderKey)
	case limitWord:
		p.must(numberToken)
	default:
		p.refuse(first)
	}
	return stage{first.place}
}

func (p *parser) mapped() name {
	column := p.name()
	p.must(equalSign)
	p.formula()
	return column
}

func (p *parser) join() {
	p.name()
	p.must(onWord)
	p.name()
	p.must(equalSign)
	p.name()
}

func (p *parser) group() {
	if !p.nextIs(colonSign) {
		p.names()
	}
	p.must(colonSign)
	list(p, p.made)
}

func (p *parser) made() name {
	column := p.name()
	p.must(equalSign)
	way := p.take()
	switch way.kind {
	case countWord, sumWord, minWord, maxWord:
	default:
		p.refuse(way)
	}
	p.must(openSign)
	if way.kind != countWord || !p.nextIs(closeSign) {
		p.name()
	}
	p.must(closeSign)
	return column
}

func (p *parser) orderKey() name {
	column := p.name()
	p.takeIf(downWord)
	return column
}
