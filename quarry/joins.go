package quarry

import "slices"

type join struct {
	table name
	left  name
	place int // of the sign between the two columns
	right name
}

func (j join) over(columns []column, a *asking) ([]column, fault) {
	seen, wrong := a.viewOf(j.table)
	if wrong.is() {
		return nil, wrong
	}
	others := seen.columns()
	for _, c := range others {
		if indexOf(columns, c.name) >= 0 {
			return nil, fault{ErrTwice, j.table.place}
		}
	}
	if wrong := j.meet(columns, others); wrong.is() {
		return nil, wrong
	}
	return slices.Concat(columns, others), fault{}
}

// meet answers what is wrong with the two columns that are to be equal.
func (j join) meet(columns, others []column) fault {
	left, wrong := j.left.kindOver(columns)
	if wrong.is() {
		return wrong
	}
	right, wrong := j.right.kindOver(others)
	if wrong.is() {
		return wrong
	}
	if left != right {
		return fault{ErrType, j.place}
	}
	return fault{}
}

// work stops where more rows are made than are left: there could be so many that
// no store should hold them.
func (j join) work(in sheet, a *asking) (sheet, fault) {
	seen, _ := a.viewOf(j.table)
	others, _ := seen.read(a, early{})
	out := newSheet(slices.Concat(in.columns, others.columns))
	rowsWith := lookupOf(others.column(j.right.text))
	key := indexOf(in.columns, j.left.text)
	for b := range in.cells.pieces(a.store.options.Width) {
		left, right := pairs(b[key], rowsWith)
		out.add(slices.Concat(b.pick(left), others.cells.pick(right)))
		if out.cells.rows() > a.left {
			break
		}
	}
	return out, fault{}
}

// lookupOf answers the rows in which a cell stands. Null is equal to no cell.
func lookupOf(cells []Cell) map[Cell][]int {
	rowsWith := map[Cell][]int{}
	for row, c := range cells {
		if !c.Null {
			rowsWith[c] = append(rowsWith[c], row)
		}
	}
	return rowsWith
}

// pairs answers the rows of both sides that belong together.
func pairs(cells []Cell, rowsWith map[Cell][]int) (left, right []int) {
	for row, c := range cells {
		for _, other := range rowsWith[c] {
			left, right = append(left, row), append(right, other)
		}
	}
	return left, right
}
