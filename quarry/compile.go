package quarry

import "cmp"

// outcome is what an expression is for a row: a cell, or the first ErrMath.
type outcome struct {
	cell  Cell
	wrong fault
}

// worker works an expression out for some rows of a batch, and answers their
// outcomes in the order of the rows.
type worker func(b batch, rows []int) []outcome

// compile makes the worker of an expression without faults over these columns.
func compile(n node, columns []column) worker {
	switch n := n.(type) {
	case literal:
		return forEach(func(batch, int) Cell { return n.cell })
	case name:
		i := indexOf(columns, n.text)
		return forEach(func(b batch, row int) Cell { return b[i][row] })
	case nullTest:
		return afterOne(compile(n.part, columns), func(c Cell) outcome { return truth(c.Null != n.negated) })
	case single:
		return afterOne(compile(n.part, columns), unlessNull(singleWay(n.operator, n.place)))
	case double:
		return compileDouble(n, columns)
	}
	return forEach(func(batch, int) Cell { return Cell{Null: true} })
}

func compileDouble(n double, columns []column) worker {
	left, right := compile(n.left, columns), compile(n.right, columns)
	switch n.operator {
	case and:
		return unlessSettled(left, right, false)
	case or:
		return unlessSettled(left, right, true)
	}
	return afterTwo(left, right, doubleWay(n.operator, n.place))
}

func forEach(cellOf func(b batch, row int) Cell) worker {
	return func(b batch, rows []int) []outcome {
		out := make([]outcome, len(rows))
		for i, row := range rows {
			out[i].cell = cellOf(b, row)
		}
		return out
	}
}

func afterOne(part worker, way func(Cell) outcome) worker {
	return func(b batch, rows []int) []outcome {
		out := part(b, rows)
		for i, o := range out {
			if !o.wrong.is() {
				out[i] = way(o.cell)
			}
		}
		return out
	}
}

// afterTwo works both parts out before it looks for nulls: a part may err
// beside one that is null.
func afterTwo(left, right worker, way func(left, right Cell) outcome) worker {
	return func(b batch, rows []int) []outcome {
		out := left(b, rows)
		for i, r := range right(b, rows) {
			switch l := out[i]; {
			case l.wrong.is():
			case r.wrong.is():
				out[i] = r
			case l.cell.Null || r.cell.Null:
				out[i] = outcome{cell: Cell{Null: true}}
			default:
				out[i] = way(l.cell, r.cell)
			}
		}
		return out
	}
}

// unlessSettled is `and` (which false settles) and `or` (which true settles).
// The right part is worked out for those rows alone that the left one leaves
// open, because it could err for the others.
func unlessSettled(left, right worker, settling bool) worker {
	settled := truth(settling)
	return func(b batch, rows []int) []outcome {
		out := left(b, rows)
		var open, openRows []int
		for i, o := range out {
			if !o.wrong.is() && o != settled {
				open = append(open, i)
				openRows = append(openRows, rows[i])
			}
		}
		for i, r := range right(b, openRows) {
			if l := &out[open[i]]; r.wrong.is() || r == settled || !l.cell.Null {
				*l = r
			}
		}
		return out
	}
}

func unlessNull(way func(Cell) outcome) func(Cell) outcome {
	return func(c Cell) outcome {
		if c.Null {
			return outcome{cell: c}
		}
		return way(c)
	}
}

func truth(holds bool) outcome {
	if holds {
		return outcome{cell: Cell{N: 1}}
	}
	return outcome{}
}

func singleWay(o operator, place int) func(Cell) outcome {
	if o == not {
		return func(c Cell) outcome { return truth(c.N == 0) }
	}
	number := numberAt(place)
	return func(c Cell) outcome { return number(difference(0, c.N)) }
}

func doubleWay(o operator, place int) func(left, right Cell) outcome {
	if compares(o) {
		return func(left, right Cell) outcome { return truth(meets(o, compare(left, right))) }
	}
	number := numberAt(place)
	return func(left, right Cell) outcome { return number(calculate(o, left.N, right.N)) }
}

func compares(o operator) bool { return o >= equal && o <= atLeast }

func numberAt(place int) func(n int, inside bool) outcome {
	return func(n int, inside bool) outcome {
		if !inside {
			return outcome{wrong: fault{ErrMath, place}}
		}
		return outcome{cell: Cell{N: n}}
	}
}

// compare holds two cells of one kind against each other, neither of them null:
// of each kind but one of the two fields tells.
func compare(left, right Cell) int {
	return cmp.Or(cmp.Compare(left.N, right.N), cmp.Compare(left.S, right.S))
}

func meets(o operator, order int) bool {
	switch o {
	case equal:
		return order == 0
	case unequal:
		return order != 0
	case below:
		return order < 0
	case atMost:
		return order <= 0
	case above:
		return order > 0
	}
	return order >= 0
}
