package quarry

import (
	"strconv"
	"strings"
)

// sheet is the rows that a stage of a query made, kept by columns.
type sheet struct {
	columns []column
	cells   batch
}

func newSheet(columns []column) sheet {
	return sheet{columns, make(batch, len(columns))}
}

// add lays a batch of the same columns behind the rows of the sheet.
func (s sheet) add(b batch) {
	for i, cells := range b {
		s.cells[i] = append(s.cells[i], cells...)
	}
}

// column answers the cells of a column that the sheet has.
func (s sheet) column(name string) []Cell {
	return s.cells[indexOf(s.columns, name)]
}

// addWorked lays behind the rows of the sheet what the workers, one a column,
// make of a batch. They work column by column, but the first ErrMath is that of
// the first row that has one.
func (s sheet) addWorked(b batch, workers []worker) fault {
	rows := upTo(b.rows())
	var made [][]outcome
	for _, w := range workers {
		made = append(made, w(b, rows))
	}
	for _, row := range rows {
		for i := range made {
			o := made[i][row]
			if o.wrong.is() {
				return o.wrong
			}
			s.cells[i] = append(s.cells[i], o.cell)
		}
	}
	return fault{}
}

// text writes the answer of a query (P12).
func (s sheet) text() string {
	var out strings.Builder
	for i, c := range s.columns {
		divide(&out, i)
		out.WriteString(c.name)
		out.WriteByte(':')
		out.WriteString(kindNames[c.kind])
	}
	out.WriteByte('\n')
	for row := range s.cells.rows() {
		for i, c := range s.columns {
			divide(&out, i)
			out.WriteString(written(s.cells[i][row], c.kind))
		}
		out.WriteByte('\n')
	}
	return out.String()
}

func divide(out *strings.Builder, behind int) {
	if behind > 0 {
		out.WriteByte(',')
	}
}

func written(c Cell, k Kind) string {
	switch {
	case c.Null:
		return "null"
	case k == Str:
		return "'" + c.S + "'"
	case k == Bool:
		return strconv.FormatBool(c.N == 1)
	}
	return strconv.Itoa(c.N)
}
