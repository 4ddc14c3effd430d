package quarry

// act is what a stage does to the rows that come to it.
type act interface {
	// over answers the columns that it makes of these, or its first fault (P8).
	over(columns []column) ([]column, fault)
	// work makes its rows of those of a sheet without such a fault, batch by
	// batch of that width, or answers the first ErrMath (P11, P12).
	work(in sheet, width int) (sheet, fault)
}

type (
	where struct {
		condition formula
	}
	remake struct {
		columns []remade
	}
	remade struct {
		name  name
		value formula
	}
	limit struct {
		count int
	}
	// unbuilt is a stage that is read and not yet worked out.
	unbuilt struct {
		place int
	}
)

// sieve keeps of the rows that come to it those for which a condition is true,
// up to the first for which it errs.
type sieve struct {
	condition worker
	kept      int
	wrong     fault
}

func (w where) over(columns []column) ([]column, fault) {
	return columns, w.condition.asCondition(columns)
}

func (w where) work(in sheet, width int) (sheet, fault) {
	out, s := newSheet(in.columns), w.sieve(in.columns)
	for b := range in.cells.pieces(width) {
		out.add(b, s.keep(b, upTo(b.rows())))
	}
	return out, s.wrong
}

func (w where) sieve(columns []column) *sieve {
	return &sieve{condition: compile(w.condition.root, columns)}
}

func (s *sieve) keep(b batch, rows []int) []int {
	if s.wrong.is() {
		return nil
	}
	var out []int
	for i, o := range s.condition(b, rows) {
		if o.wrong.is() {
			s.wrong = o.wrong
			return nil
		}
		if o == truth(true) {
			out = append(out, rows[i])
		}
	}
	s.kept += len(out)
	return out
}

func (r remake) over(columns []column) ([]column, fault) {
	var out []column
	for _, c := range r.columns {
		if indexOf(out, c.name.text) >= 0 {
			return nil, fault{ErrTwice, c.name.place}
		}
		kind, wrong := c.value.root.kindOver(columns)
		if wrong.is() {
			return nil, wrong
		}
		out = append(out, column{c.name.text, kind})
	}
	return out, fault{}
}

func (r remake) work(in sheet, width int) (sheet, fault) {
	columns, _ := r.over(in.columns)
	out := newSheet(columns)
	var workers []worker
	for _, c := range r.columns {
		workers = append(workers, compile(c.value.root, in.columns))
	}
	for b := range in.cells.pieces(width) {
		if wrong := out.addWorked(b, workers); wrong.is() {
			return out, wrong
		}
	}
	return out, fault{}
}

func (l limit) over(columns []column) ([]column, fault) { return columns, fault{} }

func (l limit) work(in sheet, _ int) (sheet, fault) {
	return sheet{in.columns, in.cells.part(0, min(l.count, in.cells.rows()))}, fault{}
}

func (u unbuilt) over([]column) ([]column, fault) { return nil, fault{ErrText, u.place} }

func (u unbuilt) work(in sheet, _ int) (sheet, fault) { return in, fault{} }
