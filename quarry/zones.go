package quarry

// zone is the least and the greatest value of a column in a segment; it is empty
// if all cells are null.
type zone struct {
	empty           bool
	least, greatest Cell
}

func zoneOf(cells []Cell) zone {
	z := zone{empty: true}
	for _, c := range cells {
		switch {
		case c.Null:
		case z.empty:
			z = zone{least: c, greatest: c}
		default:
			z = zone{least: lesser(z.least, c), greatest: greater(z.greatest, c)}
		}
	}
	return z
}

// lesser and greater take cells of one kind, neither of them null: the field in
// which this kind has no value is the same in both.
func lesser(left, right Cell) Cell {
	return Cell{N: min(left.N, right.N), S: min(left.S, right.S)}
}

func greater(left, right Cell) Cell {
	return Cell{N: max(left.N, right.N), S: max(left.S, right.S)}
}

// bound is a condition that compares a column with a constant. It errs for no
// row, and a zone may tell that it is true for none of its segment.
type bound struct {
	column   int // its place in the table
	operator operator
	value    Cell
}

// boundOf answers nil of a condition that is no bound.
func boundOf(n node, columns []column) *bound {
	if d, is := n.(double); is && compares(d.operator) {
		column, named := d.left.(name)
		value, fixed := fixedCell(d.right)
		if named && fixed {
			return &bound{indexOf(columns, column.text), d.operator, value}
		}
	}
	return nil
}

// fixedCell answers the value of a constant, which may have its sign ahead.
func fixedCell(n node) (cell Cell, fixed bool) {
	switch n := n.(type) {
	case literal:
		return n.cell, true
	case single:
		cell, fixed = fixedCell(n.part)
		return Cell{N: -cell.N}, fixed && n.operator == negative
	}
	return Cell{}, false
}

func (b bound) mayHold(s segment) bool {
	z := s.zones[b.column]
	if z.empty {
		return false
	}
	least, greatest := compare(z.least, b.value), compare(z.greatest, b.value)
	between := b.operator == equal && least < 0 && greatest > 0
	return between || meets(b.operator, least) || meets(b.operator, greatest)
}
