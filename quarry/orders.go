package quarry

import "slices"

type order struct {
	keys []orderKey
}

type orderKey struct {
	column name
	down   bool
}

// ranking tells which of two rows comes first; 0 tells neither.
type ranking func(row, other int) int

func (o order) over(columns []column, _ *asking) ([]column, fault) {
	for _, k := range o.keys {
		if _, wrong := k.column.kindOver(columns); wrong.is() {
			return nil, wrong
		}
	}
	return columns, fault{}
}

func (o order) work(in sheet, _ *asking) (sheet, fault) {
	var rankings []ranking
	for _, k := range o.keys {
		rankings = append(rankings, k.ranking(in.column(k.column.text)))
	}
	rows := upTo(in.cells.rows())
	slices.SortStableFunc(rows, firstOf(rankings))
	return sheet{in.columns, in.cells.pick(rows)}, fault{}
}

func (k orderKey) ranking(cells []Cell) ranking {
	if k.down {
		return func(row, other int) int { return rank(cells[other], cells[row]) }
	}
	return func(row, other int) int { return rank(cells[row], cells[other]) }
}

// firstOf asks one ranking after another, until one tells.
func firstOf(rankings []ranking) ranking {
	return func(row, other int) int {
		for _, r := range rankings {
			if told := r(row, other); told != 0 {
				return told
			}
		}
		return 0
	}
}

// rank compares two cells of one kind, with null below all.
func rank(left, right Cell) int {
	switch {
	case left.Null == right.Null:
		return compare(left, right)
	case left.Null:
		return -1
	}
	return 1
}
