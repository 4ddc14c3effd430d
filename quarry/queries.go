package quarry

import (
	"strconv"
	"strings"
)

type query struct {
	place  int // of `from`
	table  name
	stages []stage
}

type stage struct {
	place int
}

// sheet is the rows that a stage of a query made, kept by columns.
type sheet struct {
	columns []column
	cells   batch
	rows    int
}

func (q query) answer(s *Store, user string) (string, fault) {
	seen, there := s.viewOf(user, q.table.text)
	if !there {
		return "", fault{ErrName, q.table.place}
	}
	if len(q.stages) > 0 {
		return "", fault{ErrText, q.stages[0].place}
	}
	out := seen.read(s.options)
	if out.rows > s.options.Budget {
		return "", fault{ErrBudget, q.place}
	}
	return out.text(), fault{}
}

// text writes the answer of a query (P12).
func (s sheet) text() string {
	var out strings.Builder
	for i, c := range s.columns {
		divide(&out, i)
		out.WriteString(c.name)
		out.WriteByte(':')
		out.WriteString(kindNames[c.kind])
	}
	out.WriteByte('\n')
	for row := range s.rows {
		for i, c := range s.columns {
			divide(&out, i)
			out.WriteString(written(s.cells[i][row], c.kind))
		}
		out.WriteByte('\n')
	}
	return out.String()
}

func divide(out *strings.Builder, behind int) {
	if behind > 0 {
		out.WriteByte(',')
	}
}

func written(c Cell, k Kind) string {
	switch {
	case c.Null:
		return "null"
	case k == Str:
		return "'" + c.S + "'"
	case k == Bool:
		return strconv.FormatBool(c.N == 1)
	}
	return strconv.Itoa(c.N)
}
