package quarry

// early is what the conditions right behind `from` do while its table is read.
// That of a `join` has none.
type early struct {
	sieves []*sieve // one a condition
	bound  *bound   // the first condition, if it is one
}

// early answers what Push and Prune ask for. The rows of a segment that is
// skipped are counted all the same: only admin is known to see them all.
func (q query) early(a *asking, columns []column) early {
	var out early
	conditions := q.firstConditions()
	if a.store.options.Push {
		for _, w := range conditions {
			out.sieves = append(out.sieves, w.sieve(columns))
		}
	}
	if a.store.options.Prune && a.user == admin && len(conditions) > 0 {
		out.bound = boundOf(conditions[0].condition.root, columns)
	}
	return out
}

func (q query) firstConditions() []where {
	var out []where
	for _, s := range q.stages {
		w, is := s.act.(where)
		if !is {
			break
		}
		out = append(out, w)
	}
	return out
}

func (e early) skips(s segment) bool {
	return e.bound != nil && !e.bound.mayHold(s)
}

func (e early) sift(b batch, rows []int) []int {
	for _, s := range e.sieves {
		rows = s.keep(b, rows)
	}
	return rows
}
