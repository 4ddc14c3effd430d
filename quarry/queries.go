package quarry

// query is a command that changes nothing.
type query struct {
	place  int // of `from`
	table  name
	stages []stage
}

// stage is a part of a query behind its `from`.
type stage struct {
	place int // of its first word
	act   act
}

// tally is what a stage has made: so many rows, or the first ErrMath.
type tally struct {
	place int // of the stage's first word
	rows  int
	wrong fault
}

// budget is how many rows a query may still make.
type budget int

func (q query) answer(s *Store, user string) (string, fault) {
	seen, there := s.viewOf(user, q.table.text)
	if !there {
		return "", fault{ErrName, q.table.place}
	}
	if wrong := q.check(seen.columns()); wrong.is() {
		return "", wrong
	}
	out, wrong := q.work(seen, s.options)
	if wrong.is() {
		return "", wrong
	}
	return out.text(), fault{}
}

// check answers the first fault of the stages (P8): all of them are looked at
// before any row is.
func (q query) check(columns []column) fault {
	for _, s := range q.stages {
		made, wrong := s.act.over(columns)
		if wrong.is() {
			return wrong
		}
		columns = made
	}
	return fault{}
}

// work goes from stage to stage (P12). Those whose conditions were worked on
// while the table was read are settled one by one, as if they had waited.
func (q query) work(seen view, o Options) (sheet, fault) {
	left := budget(o.Budget)
	var early []*sieve
	if o.Push {
		early = q.firstSieves(seen.columns())
	}
	out, rows := seen.read(o, early)
	if wrong := left.settle(tally{place: q.place, rows: rows}); wrong.is() {
		return sheet{}, wrong
	}
	for i, s := range q.stages {
		made := tally{place: s.place}
		if i < len(early) {
			made.rows, made.wrong = early[i].kept, early[i].wrong
		} else {
			out, made.wrong = s.act.work(out, o.Width)
			made.rows = out.cells.rows()
		}
		if wrong := left.settle(made); wrong.is() {
			return sheet{}, wrong
		}
	}
	return out, fault{}
}

// firstSieves answers those of the conditions right behind `from`.
func (q query) firstSieves(columns []column) []*sieve {
	var out []*sieve
	for _, s := range q.stages {
		w, is := s.act.(where)
		if !is {
			break
		}
		out = append(out, w.sieve(columns))
	}
	return out
}

func (b *budget) settle(made tally) fault {
	if made.wrong.is() {
		return made.wrong
	}
	*b -= budget(made.rows)
	if *b < 0 {
		return fault{ErrBudget, made.place}
	}
	return fault{}
}
