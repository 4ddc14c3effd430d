package quarry

const admin = "admin"

type grantKey struct {
	user, table string
}

// granted is what a grant shows of its table: the columns, by their places in
// it, and the rows for which the condition is true.
type granted struct {
	shown     []int
	condition worker
}

// view is what a table is to a user (P7).
type view struct {
	table *table
	granted
}

func (s *Store) viewOf(user, table string) (view, bool) {
	t := s.tables[table]
	if t == nil {
		return view{}, false
	}
	if user == admin {
		return view{t, everything(t)}, true
	}
	g, there := s.grants[grantKey{user, table}]
	return view{t, g}, there
}

func everything(t *table) granted {
	return granted{upTo(len(t.columns)), forEach(func(batch, int) Cell { return Cell{N: 1} })}
}

func upTo(count int) []int {
	out := make([]int, count)
	for i := range out {
		out[i] = i
	}
	return out
}

// read makes a sheet of the view, segment by segment and in each batch by batch.
func (v view) read(o Options) sheet {
	out := sheet{cells: make(batch, len(v.shown))}
	for _, i := range v.shown {
		out.columns = append(out.columns, v.table.columns[i])
	}
	for _, s := range v.table.segments {
		rows := s.unpacked()
		count := len(rows[0])
		for from := 0; from < count; from += o.Width {
			v.readBatch(&out, rows.part(from, min(from+o.Width, count)))
		}
	}
	return out
}

func (v view) readBatch(out *sheet, b batch) {
	rows := upTo(len(b[0]))
	for row, o := range v.condition(b, rows) {
		if o != truth(true) {
			continue
		}
		for i, place := range v.shown {
			out.cells[i] = append(out.cells[i], b[place][row])
		}
		out.rows++
	}
}
