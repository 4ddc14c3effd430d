package quarry

const admin = "admin"

type grantKey struct {
	user, table string
}

// granted is what a grant shows of its table: the columns, by their places in
// it, and the rows for which the condition is true.
type granted struct {
	shown     []int
	condition worker
}

// view is what a table is to a user (P7).
type view struct {
	table *table
	granted
}

func (s *Store) viewOf(user, table string) (view, bool) {
	t := s.tables[table]
	if t == nil {
		return view{}, false
	}
	if user == admin {
		return view{t, everything(t)}, true
	}
	g, there := s.grants[grantKey{user, table}]
	return view{t, g}, there
}

func everything(t *table) granted {
	return granted{upTo(len(t.columns)), forEach(func(batch, int) Cell { return Cell{N: 1} })}
}

func upTo(count int) []int {
	out := make([]int, count)
	for i := range out {
		out[i] = i
	}
	return out
}

func (v view) columns() []column {
	var out []column
	for _, i := range v.shown {
		out = append(out, v.table.columns[i])
	}
	return out
}

// read goes through the view's rows, segment by segment and in each batch by
// batch. It makes a sheet of those that all sieves keep, and tells how many the
// view has: a sieve sees nothing but the view, because it could tell of more.
func (v view) read(a *asking, first early) (sheet, int) {
	out, count := newSheet(v.columns()), 0
	for _, s := range v.table.segments {
		if first.skips(s) {
			count += s.rows
			continue
		}
		a.touched++
		for b := range s.unpacked().pieces(a.store.options.Width) {
			rows, shown := v.rowsOf(b), v.shownOf(b)
			count += len(rows)
			out.add(shown.pick(first.sift(shown, rows)))
		}
	}
	return out, count
}

func (v view) rowsOf(b batch) []int {
	var out []int
	for row, o := range v.condition(b, upTo(b.rows())) {
		if o == truth(true) {
			out = append(out, row)
		}
	}
	return out
}

func (v view) shownOf(b batch) batch {
	var out batch
	for _, i := range v.shown {
		out = append(out, b[i])
	}
	return out
}
