package quarry

type group struct {
	keys []name
	made []madeColumn
}

// madeColumn is a column that a group makes of the cells of its rows.
type madeColumn struct {
	name  name
	way   tokenKind
	place int // of the word that says the way
	of    node
}

// groupPart is what lies in one group by all keys so far: what did by those
// ahead, and has this cell.
type groupPart struct {
	number int
	key    Cell
}

// gathering is a made column at work: what it is so far for each group.
type gathering struct {
	cells  []outcome // of the column that it goes over, row by row
	next   func(soFar, cell Cell) outcome
	totals []Cell
}

func (g group) over(columns []column, _ *asking) ([]column, fault) {
	var out []column
	for _, k := range g.keys {
		kind, wrong := k.kindOver(columns)
		if wrong.is() {
			return nil, wrong
		}
		if indexOf(out, k.text) >= 0 {
			return nil, fault{ErrTwice, k.place}
		}
		out = append(out, column{k.text, kind})
	}
	for _, m := range g.made {
		if indexOf(out, m.name.text) >= 0 {
			return nil, fault{ErrTwice, m.name.place}
		}
		kind, wrong := m.kindOver(columns)
		if wrong.is() {
			return nil, wrong
		}
		out = append(out, column{m.name.text, kind})
	}
	return out, fault{}
}

func (m madeColumn) kindOver(columns []column) (Kind, fault) {
	kind, wrong := m.of.kindOver(columns)
	switch {
	case wrong.is():
		return 0, wrong
	case m.way == countWord:
		return Int, fault{}
	case m.way == sumWord && kind != Int:
		return 0, fault{ErrType, m.place}
	}
	return kind, fault{}
}

func (g group) work(in sheet, a *asking) (sheet, fault) {
	columns, _ := g.over(in.columns, a)
	var keys batch
	for _, k := range g.keys {
		keys = append(keys, in.column(k.text))
	}
	numbers, firsts := groupsOf(keys, in.cells.rows())
	cells := keys.pick(firsts)
	var gatherings []gathering
	for _, m := range g.made {
		one := m.gathering(in, len(firsts))
		gatherings, cells = append(gatherings, one), append(cells, one.totals)
	}
	return sheet{columns, cells}, gather(gatherings, numbers)
}

// groupsOf answers the number of each row's group, in the order of their first
// rows, and these rows. Key by key it parts what was one group by those ahead.
func groupsOf(keys batch, rows int) (numbers, firsts []int) {
	numbers = make([]int, rows)
	lookup := map[groupPart]int{}
	for _, cells := range keys {
		clear(lookup)
		for row, c := range cells {
			part := groupPart{numbers[row], c}
			number, there := lookup[part]
			if !there {
				number = len(lookup)
				lookup[part] = number
			}
			numbers[row] = number
		}
	}
	for row, number := range numbers {
		if number == len(firsts) {
			firsts = append(firsts, row)
		}
	}
	return numbers, firsts
}

func (m madeColumn) gathering(in sheet, groups int) gathering {
	cells := compile(m.of, in.columns)(in.cells, upTo(in.cells.rows()))
	totals := make([]Cell, groups)
	for i := range totals {
		totals[i].Null = m.way != countWord
	}
	return gathering{cells, m.next(), totals}
}

// next answers how to go on with a cell, where neither is null.
func (m madeColumn) next() func(soFar, cell Cell) outcome {
	switch m.way {
	case countWord:
		return func(soFar, _ Cell) outcome { return outcome{cell: Cell{N: soFar.N + 1}} }
	case sumWord:
		return doubleWay(plus, m.place)
	case minWord:
		return func(soFar, cell Cell) outcome { return outcome{cell: lesser(soFar, cell)} }
	}
	return func(soFar, cell Cell) outcome { return outcome{cell: greater(soFar, cell)} }
}

// gather goes through the rows in order, each of the group with that number, and
// in a row through the columns: the first sum that errs ends it.
func gather(gatherings []gathering, numbers []int) fault {
	for row, number := range numbers {
		for _, g := range gatherings {
			if wrong := g.take(row, number); wrong.is() {
				return wrong
			}
		}
	}
	return fault{}
}

func (g gathering) take(row, number int) fault {
	cell, total := g.cells[row].cell, &g.totals[number]
	switch {
	case cell.Null:
		return fault{}
	case total.Null:
		*total = cell
		return fault{}
	}
	made := g.next(*total, cell)
	*total = made.cell
	return made.wrong
}
