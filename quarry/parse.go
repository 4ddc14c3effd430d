package quarry

import "slices"

// fault is an error and its place; that of OK is none.
type fault struct {
	errno Errno
	place int
}

func (f fault) is() bool { return f.errno != OK }

// parser reads a command from the left. At its first fault it loses all further
// tokens: every loop and every descent then ends, and no rule needs to ask
// whether an earlier one failed.
type parser struct {
	tokens []token
	at     int
	depth  int
	wrong  fault
}

// parse answers what a text asks for, or the first of its faults (P5).
func parse(text string) (command, fault) {
	p := &parser{tokens: tokensOf(text)}
	parsed := p.command()
	if p.next().kind != endToken {
		p.refuse(p.next())
	}
	return parsed, p.wrong
}

func (p *parser) next() token { return p.tokens[p.at] }

// take never goes beyond the last token, which is no part of any rule.
func (p *parser) take() token {
	t := p.next()
	if p.at < len(p.tokens)-1 {
		p.at++
	}
	return t
}

func (p *parser) nextIs(kinds ...tokenKind) bool {
	return slices.Contains(kinds, p.next().kind)
}

func (p *parser) takeIf(kind tokenKind) bool {
	found := p.nextIs(kind)
	if found {
		p.take()
	}
	return found
}

func (p *parser) must(kind tokenKind) token {
	t := p.take()
	if t.kind != kind {
		p.refuse(t)
	}
	return t
}

func (p *parser) refuse(t token) { p.fail(fault{ErrText, t.place}) }

func (p *parser) fail(wrong fault) {
	if !p.wrong.is() {
		p.wrong = wrong
	}
	p.tokens, p.at = []token{{kind: badToken}}, 0
}

// list reads one or more of the same, with commas between.
func list[T any](p *parser, one func() T) []T {
	all := []T{one()}
	for p.takeIf(commaSign) {
		all = append(all, one())
	}
	return all
}

func (p *parser) name() name {
	t := p.must(nameToken)
	return name{t.text, t.place}
}

func (p *parser) names() []name { return list(p, p.name) }

func (p *parser) command() command {
	first := p.take()
	switch first.kind {
	case createWord:
		return p.create()
	case dropWord:
		return drop{p.name()}
	case loadWord:
		return p.load()
	case grantWord:
		return p.grant()
	case revokeWord:
		user := p.name()
		p.must(onWord)
		return revoke{user, p.name()}
	case fromWord:
		return p.query(first.place)
	}
	p.refuse(first)
	return nil
}

func (p *parser) create() command {
	table := p.name()
	p.must(openSign)
	columns := list(p, p.column)
	p.must(closeSign)
	return create{table, columns}
}

func (p *parser) column() newColumn {
	return newColumn{p.name(), p.kind()}
}

func (p *parser) kind() Kind {
	t := p.take()
	switch t.kind {
	case intWord:
		return Int
	case strWord:
		return Str
	case boolWord:
		return Bool
	}
	p.refuse(t)
	return 0
}

func (p *parser) load() command {
	table := p.name()
	rows := []newRow{p.row()}
	for p.nextIs(openSign) {
		rows = append(rows, p.row())
	}
	return load{table, rows}
}

func (p *parser) row() newRow {
	place := p.must(openSign).place
	values := list(p, p.value)
	p.must(closeSign)
	return newRow{place, values}
}

func (p *parser) value() newValue {
	t := p.take()
	switch t.kind {
	case minusSign:
		return newValue{t.place, Int, Cell{N: -p.must(numberToken).number}}
	case nullWord:
		return newValue{t.place, Int, Cell{Null: true}}
	}
	kind, cell, found := constant(t)
	if !found {
		p.refuse(t)
	}
	return newValue{t.place, kind, cell}
}

func constant(t token) (kind Kind, cell Cell, found bool) {
	switch t.kind {
	case numberToken:
		return Int, Cell{N: t.number}, true
	case stringToken:
		return Str, Cell{S: t.text}, true
	case trueWord:
		return Bool, Cell{N: 1}, true
	case falseWord:
		return Bool, Cell{N: 0}, true
	}
	return 0, Cell{}, false
}

func (p *parser) grant() command {
	user := p.name()
	p.must(onWord)
	table := p.name()
	p.must(openSign)
	columns := p.names()
	p.must(closeSign)
	p.must(whereWord)
	return grant{user, table, columns, p.formula()}
}
