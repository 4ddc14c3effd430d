package quarry

// act is what a stage does to the rows that come to it.
type act interface {
	// over answers the columns that it makes of these, or its first fault (P8).
	over(columns []column, a *asking) ([]column, fault)
	// work makes its rows of those of a sheet without such a fault, or answers
	// the first ErrMath (P11, P12). It may stop at more rows than are left.
	work(in sheet, a *asking) (sheet, fault)
}

type (
	where struct {
		condition formula
	}
	remake struct {
		columns []remade
	}
	remade struct {
		name  name
		value formula
	}
	limit struct {
		count int
	}
)

// sieve keeps of the rows that come to it those for which a condition is true,
// up to the first for which it errs.
type sieve struct {
	condition worker
	kept      int
	wrong     fault
}

func (w where) over(columns []column, _ *asking) ([]column, fault) {
	return columns, w.condition.asCondition(columns)
}

func (w where) work(in sheet, a *asking) (sheet, fault) {
	out, s := newSheet(in.columns), w.sieve(in.columns)
	for b := range in.cells.pieces(a.store.options.Width) {
		out.add(b.pick(s.keep(b, upTo(b.rows()))))
	}
	return out, s.wrong
}

func (w where) sieve(columns []column) *sieve {
	return &sieve{condition: compile(w.condition.root, columns)}
}

func (s *sieve) keep(b batch, rows []int) []int {
	if s.wrong.is() {
		return nil
	}
	var out []int
	for i, o := range s.condition(b, rows) {
		if o.wrong.is() {
			s.wrong = o.wrong
			return nil
		}
		if o == truth(true) {
			out = append(out, rows[i])
		}
	}
	s.kept += len(out)
	return out
}

func (r remake) over(columns []column, _ *asking) ([]column, fault) {
	var out []column
	for _, c := range r.columns {
		if indexOf(out, c.name.text) >= 0 {
			return nil, fault{ErrTwice, c.name.place}
		}
		kind, wrong := c.value.root.kindOver(columns)
		if wrong.is() {
			return nil, wrong
		}
		out = append(out, column{c.name.text, kind})
	}
	return out, fault{}
}

func (r remake) work(in sheet, a *asking) (sheet, fault) {
	columns, _ := r.over(in.columns, a)
	out := newSheet(columns)
	var workers []worker
	for _, c := range r.columns {
		workers = append(workers, compile(c.value.root, in.columns))
	}
	for b := range in.cells.pieces(a.store.options.Width) {
		if wrong := out.addWorked(b, workers); wrong.is() {
			return out, wrong
		}
	}
	return out, fault{}
}

func (l limit) over(columns []column, _ *asking) ([]column, fault) { return columns, fault{} }

func (l limit) work(in sheet, _ *asking) (sheet, fault) {
	return sheet{in.columns, in.cells.part(0, min(l.count, in.cells.rows()))}, fault{}
}
