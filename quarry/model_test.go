package quarry

import (
	"math/rand"
	"slices"
	"strings"
	"testing"
)

// answer works a query out: `from t` and these stages.
func (t modelled) answer(stages []modelStage, budget int) (string, fault) {
	columns, rows := t.columns, t.rows
	if budget -= len(rows); budget < 0 {
		return "", fault{ErrBudget, 0}
	}
	place := len("from t")
	for _, s := range stages {
		place += len(" | ")
		made, wrong := s.work(rows, place)
		if wrong.is() {
			return "", wrong
		}
		if budget -= len(made); budget < 0 {
			return "", fault{ErrBudget, place}
		}
		columns, rows = s.columns, made
		place += len(s.text)
	}
	return toldText(columns, rows), fault{}
}

func toldText(columns []column, rows []tellers) string {
	var lines []string
	var heads []string
	for _, c := range columns {
		heads = append(heads, c.name+":"+[]string{"int", "str", "bool"}[c.kind])
	}
	lines = append(lines, strings.Join(heads, ","))
	for _, row := range rows {
		var values []string
		for _, c := range columns {
			values = append(values, toldValue(row[c.name], c.kind))
		}
		lines = append(lines, strings.Join(values, ","))
	}
	return strings.Join(lines, "\n") + "\n"
}

func toldValue(x told, k Kind) string {
	switch {
	case x.null:
		return "null"
	case k == Int:
		return x.n.String()
	case k == Str:
		return "'" + x.s + "'"
	}
	return map[int]string{0: "false", 1: "true"}[x.n.Sign()]
}

// worldTable is a table with rows at random, and a grant on it, or none.
type worldTable struct {
	all       modelled // to admin
	rows      [][]string
	granted   bool
	condition made
	shown     modelled // to ann, if it is granted
}

func newTable(r *rand.Rand, name string, columns []column, most int, rowOf func(m maker) []string) worldTable {
	m := maker{r, columns}
	w := worldTable{all: modelled{name: name, columns: columns}, shown: modelled{name: name}, granted: name == "t" || r.Intn(4) > 0}
	w.condition = m.make(Bool, r.Intn(3))
	for len(w.shown.columns) == 0 {
		for _, c := range columns {
			if r.Intn(4) > 0 {
				w.shown.columns = append(w.shown.columns, c)
			}
		}
	}
	for range r.Intn(most) {
		w.addRow(rowOf(m))
	}
	return w
}

func (w *worldTable) addRow(row []string) {
	w.rows = append(w.rows, row)
	all := tellers{}
	for i, c := range w.all.columns {
		all[c.name] = valueOf(row[i])
	}
	w.all.rows = append(w.all.rows, all)
	if x := w.condition.of(all); !x.errs && !x.null && x.n.Sign() == 1 {
		w.shown.rows = append(w.shown.rows, all)
	}
}

// world is the tables t and u.
type world []worldTable

func newWorld(r *rand.Rand) world {
	return world{
		newTable(r, "t", []column{{"n", Int}, {"s", Str}, {"b", Bool}, {"m", Int}}, 24, func(m maker) []string {
			return []string{
				m.pick("null", "0", "1", "2", "3", "-1", "5", "9223372036854775807", "-9223372036854775807"),
				m.pick("null", "''", "'a'", "'ab'", "'b'"),
				m.pick("null", "true", "false"),
				m.pick("null", "1", "2", "7", "-4"),
			}
		}),
		newTable(r, "u", []column{{"k", Int}, {"c", Str}, {"d", Bool}}, 9, func(m maker) []string {
			return []string{m.pick("null", "0", "1", "2", "-4"), m.pick("null", "''", "'a'", "'b'"), m.pick("null", "true", "false")}
		}),
	}
}

func (w world) toAdmin() []modelled {
	return []modelled{w[0].all, w[1].all}
}

func (w world) toAnn() []modelled {
	var out []modelled
	for _, x := range w {
		if x.granted {
			out = append(out, x.shown)
		}
	}
	return out
}

func declared(t modelled) step {
	var heads []string
	for _, c := range t.columns {
		heads = append(heads, c.name+" "+[]string{"int", "str", "bool"}[c.kind])
	}
	return done("admin", "create "+t.name+"("+strings.Join(heads, ",")+")")
}

func (w world) store(t *testing.T, o Options) *Store {
	s := New(o)
	for _, x := range w {
		play(t, s, declared(x.all))
		var shown []string
		for _, c := range x.shown.columns {
			shown = append(shown, c.name)
		}
		if x.granted {
			play(t, s, done("admin", "grant ann on "+x.all.name+" ("+strings.Join(shown, ",")+") where "+x.condition.text))
		}
		for _, row := range x.rows {
			play(t, s, done("admin", "load "+x.all.name+" ("+strings.Join(row, ",")+")"))
		}
	}
	return s
}

// lean is a store in which the tables are to everybody what they are to ann.
func (w world) lean(t *testing.T, o Options) *Store {
	s := New(o)
	for _, x := range w.toAnn() {
		play(t, s, declared(x))
		for _, row := range x.rows {
			var values []string
			for _, c := range x.columns {
				values = append(values, toldValue(row[c.name], c.kind))
			}
			play(t, s, done("admin", "load "+x.name+" ("+strings.Join(values, ",")+")"))
		}
	}
	return s
}

// segments tells how many a query reads without Prune.
func (w world) segments(stages []modelStage, size int) int {
	count := 0
	for _, x := range w {
		for _, s := range append(stages, modelStage{joined: "t"}) {
			if s.joined == x.all.name {
				count += (len(x.rows) + size - 1) / size
			}
		}
	}
	return count
}

func queryOf(r *rand.Rand, tables []modelled) (string, []modelStage) {
	text, columns := "from t", tables[0].columns
	var stages []modelStage
	for range r.Intn(5) {
		s := planner{maker{r, columns}, tables}.stage()
		text += " | " + s.text
		stages = append(stages, s)
		columns = s.columns
	}
	return text, slices.Clip(stages)
}

// Queries at random against the test's own reckoning, for admin and for a user
// who is shown a part, in stores of all layouts, and in one that has nothing
// hidden.
func TestP13QueriesAgainstAReckoningOfItsOwn(t *testing.T) {
	r := rand.New(rand.NewSource(1))
	options := allOptions()
	count := map[Errno]int{}
	for range 1800 {
		w := newWorld(r)
		budget := []int{r.Intn(30), r.Intn(100), 100, 1000, maxBudget}[r.Intn(5)]
		var stores []*Store
		for range 4 {
			o := options[r.Intn(len(options))]
			o.Budget = budget
			stores = append(stores, w.store(t, o))
		}
		lean := w.lean(t, stores[0].options)
		for range 6 {
			text, stages := queryOf(r, w.toAdmin())
			want, wrong := w[0].all.answer(stages, budget)
			seen, stagesSeen := queryOf(r, w.toAnn())
			wantSeen, wrongSeen := w[0].shown.answer(stagesSeen, budget)
			if max(len(text), len(seen)) > maxText {
				continue
			}
			count[wrong.errno]++
			count[wrongSeen.errno]++
			for _, s := range stores {
				w.ask(t, s, stages, step{"admin", text, want, wrong.errno, wrong.place})
				w.ask(t, s, stagesSeen, step{"ann", seen, wantSeen, wrongSeen.errno, wrongSeen.place})
			}
			play(t, lean, step{"admin", seen, wantSeen, wrongSeen.errno, wrongSeen.place})
			sameFor(t, stores[0], lean, text)
		}
		if t.Failed() {
			t.Fatalf("%d rows %q, %q, grants on %v where %q, on %v where %q", budget, w[0].rows, w[1].rows, w[0].shown.columns, w[0].condition.text, w[1].shown.columns, w[1].condition.text)
		}
	}
	if least := min(count[OK], count[ErrMath], count[ErrBudget]); least < 1000 {
		t.Errorf("%v: too few to tell", count)
	}
}

// ask plays a query, and holds what it touched against the segments of its
// tables.
func (w world) ask(t *testing.T, s *Store, stages []modelStage, asked step) {
	t.Helper()
	before := s.Touched()
	play(t, s, asked)
	all, touched := w.segments(stages, s.options.Segment), s.Touched()
	switch {
	case asked.errno != OK && touched != before:
		t.Errorf("%q: an error, and Touched() = %d, and %d before", asked.text, touched, before)
	case asked.errno == OK && (touched > all || touched < all && !s.options.Prune):
		t.Errorf("%q: Touched() = %d of %d, prune %t", asked.text, touched, all, s.options.Prune)
	}
}

// sameFor asks what ann's query is answered, right or wrong, where rows and
// columns are hidden, and where there are none of these.
func sameFor(t *testing.T, full, lean *Store, text string) {
	t.Helper()
	a, e, place := full.Do("ann", text)
	b, f, at := lean.Do("admin", text)
	if a != b || e != f || place != at {
		t.Errorf("%q: %q, %d, %d to ann, but %q, %d, %d where nothing is hidden", text, a, e, place, b, f, at)
	}
}
