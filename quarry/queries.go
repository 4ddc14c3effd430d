package quarry

// query is a command that changes nothing.
type query struct {
	place  int // of `from`
	table  name
	stages []stage
}

// stage is a part of a query behind its `from`.
type stage struct {
	place int // of its first word
	act   act
}

// asking is a query that is being answered.
type asking struct {
	store   *Store
	user    string
	left    int // rows that it may still make
	touched int // segments that it has read
}

// tally is what a stage has made: so many rows, or the first ErrMath.
type tally struct {
	place int // of the stage's first word
	rows  int
	wrong fault
}

func (q query) answer(s *Store, user string) (string, fault) {
	a := &asking{store: s, user: user, left: s.options.Budget}
	if wrong := q.check(a); wrong.is() {
		return "", wrong
	}
	out, wrong := q.work(a)
	if wrong.is() {
		return "", wrong
	}
	s.touched = a.touched
	return out.text(), fault{}
}

// check answers the first fault of the stages (P8): all of them are looked at
// before any row is.
func (q query) check(a *asking) fault {
	seen, wrong := a.viewOf(q.table)
	if wrong.is() {
		return wrong
	}
	columns := seen.columns()
	for _, s := range q.stages {
		made, wrong := s.act.over(columns, a)
		if wrong.is() {
			return wrong
		}
		columns = made
	}
	return fault{}
}

// work goes from stage to stage (P12). Those whose conditions were worked on
// while the table was read are settled one by one, as if they had waited.
func (q query) work(a *asking) (sheet, fault) {
	seen, _ := a.viewOf(q.table)
	first := q.early(a, seen.columns())
	out, rows := seen.read(a, first)
	if wrong := a.settle(tally{place: q.place, rows: rows}); wrong.is() {
		return sheet{}, wrong
	}
	for i, s := range q.stages {
		made := tally{place: s.place}
		if i < len(first.sieves) {
			made.rows, made.wrong = first.sieves[i].kept, first.sieves[i].wrong
		} else {
			out, made.wrong = s.act.work(out, a)
			made.rows = out.cells.rows()
		}
		if wrong := a.settle(made); wrong.is() {
			return sheet{}, wrong
		}
	}
	return out, fault{}
}

func (a *asking) viewOf(table name) (view, fault) {
	seen, there := a.store.viewOf(a.user, table.text)
	if !there {
		return view{}, fault{ErrName, table.place}
	}
	return seen, fault{}
}

func (a *asking) settle(made tally) fault {
	if made.wrong.is() {
		return made.wrong
	}
	a.left -= made.rows
	if a.left < 0 {
		return fault{ErrBudget, made.place}
	}
	return fault{}
}
