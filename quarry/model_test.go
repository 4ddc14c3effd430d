package quarry

import (
	"math/rand"
	"strconv"
	"strings"
	"testing"
)

// modelled is what a table is to a user, in the test's own reckoning.
type modelled struct {
	columns []column
	rows    []tellers
}

// modelStage is a stage at random, and how the test works it out on its own: row
// by row, and in each column by column.
type modelStage struct {
	text    string
	columns []column
	work    func(rows []tellers, place int) ([]tellers, fault)
}

func (m maker) stage() modelStage {
	switch m.r.Intn(5) {
	case 0, 1:
		return m.whereStage()
	case 2, 3:
		return m.mapStage()
	}
	count := m.r.Intn(20)
	return modelStage{"limit " + strconv.Itoa(count), m.columns, func(rows []tellers, _ int) ([]tellers, fault) {
		return rows[:min(count, len(rows))], fault{}
	}}
}

func (m maker) whereStage() modelStage {
	condition := m.make(Bool, m.r.Intn(4))
	return modelStage{"where " + condition.text, m.columns, func(rows []tellers, place int) ([]tellers, fault) {
		var out []tellers
		for _, row := range rows {
			x := condition.at(place+len("where "), row)
			if x.errs {
				return nil, fault{ErrMath, x.place}
			}
			if !x.null && x.n.Sign() == 1 {
				out = append(out, row)
			}
		}
		return out, fault{}
	}}
}

func (m maker) mapStage() modelStage {
	text := "map "
	var columns []column
	var values []made
	var places []int
	names := []string{"n", "s", "b", "m", "x", "y"}
	for _, i := range m.r.Perm(len(names))[:1+m.r.Intn(4)] {
		c := column{names[i], Kind(m.r.Intn(3))}
		value := m.make(c.kind, m.r.Intn(3))
		text += c.name + " = "
		places = append(places, len(text))
		text += value.text + ","
		columns, values = append(columns, c), append(values, value)
	}
	return modelStage{strings.TrimSuffix(text, ","), columns, func(rows []tellers, place int) ([]tellers, fault) {
		var out []tellers
		for _, row := range rows {
			fresh := tellers{}
			for i, c := range columns {
				x := values[i].at(place+places[i], row)
				if x.errs {
					return nil, fault{ErrMath, x.place}
				}
				fresh[c.name] = x
			}
			out = append(out, fresh)
		}
		return out, fault{}
	}}
}

// answer works a query out: `from t` and these stages.
func (t modelled) answer(stages []modelStage, budget int) (string, fault) {
	columns, rows := t.columns, t.rows
	if budget -= len(rows); budget < 0 {
		return "", fault{ErrBudget, 0}
	}
	place := len("from t")
	for _, s := range stages {
		place += len(" | ")
		made, wrong := s.work(rows, place)
		if wrong.is() {
			return "", wrong
		}
		if budget -= len(made); budget < 0 {
			return "", fault{ErrBudget, place}
		}
		columns, rows = s.columns, made
		place += len(s.text)
	}
	return toldText(columns, rows), fault{}
}

func toldText(columns []column, rows []tellers) string {
	var lines []string
	var heads []string
	for _, c := range columns {
		heads = append(heads, c.name+":"+[]string{"int", "str", "bool"}[c.kind])
	}
	lines = append(lines, strings.Join(heads, ","))
	for _, row := range rows {
		var values []string
		for _, c := range columns {
			values = append(values, toldValue(row[c.name], c.kind))
		}
		lines = append(lines, strings.Join(values, ","))
	}
	return strings.Join(lines, "\n") + "\n"
}

func toldValue(x told, k Kind) string {
	switch {
	case x.null:
		return "null"
	case k == Int:
		return x.n.String()
	case k == Str:
		return "'" + x.s + "'"
	}
	return map[int]string{0: "false", 1: "true"}[x.n.Sign()]
}

// world is a table with rows at random, and a grant on it.
type world struct {
	columns          []column
	rows             [][]string
	shown            []column
	condition        made
	toAdmin, toOther modelled
}

func newWorld(r *rand.Rand) world {
	w := world{columns: []column{{"n", Int}, {"s", Str}, {"b", Bool}, {"m", Int}}}
	m := maker{r, w.columns}
	w.condition = m.make(Bool, r.Intn(3))
	for len(w.shown) == 0 {
		for _, c := range w.columns {
			if r.Intn(4) > 0 {
				w.shown = append(w.shown, c)
			}
		}
	}
	for range r.Intn(24) {
		w.addRow([]string{
			m.pick("null", "0", "1", "2", "3", "-1", "5", "9223372036854775807", "-9223372036854775807"),
			m.pick("null", "''", "'a'", "'ab'", "'b'"),
			m.pick("null", "true", "false"),
			m.pick("null", "1", "2", "7", "-4"),
		})
	}
	w.toAdmin.columns, w.toOther.columns = w.columns, w.shown
	return w
}

func (w *world) addRow(row []string) {
	w.rows = append(w.rows, row)
	all := tellers{}
	for i, c := range w.columns {
		all[c.name] = valueOf(row[i])
	}
	w.toAdmin.rows = append(w.toAdmin.rows, all)
	if x := w.condition.of(all); !x.errs && !x.null && x.n.Sign() == 1 {
		w.toOther.rows = append(w.toOther.rows, all)
	}
}

func (w world) store(t *testing.T, o Options) *Store {
	s := New(o)
	var shown []string
	for _, c := range w.shown {
		shown = append(shown, c.name)
	}
	play(t, s, done("admin", "create t(n int,s str,b bool,m int)"), done("admin", "grant ann on t ("+strings.Join(shown, ",")+") where "+w.condition.text))
	for _, row := range w.rows {
		play(t, s, done("admin", "load t ("+strings.Join(row, ",")+")"))
	}
	return s
}

// lean is a store in which the table is to everybody what it is to ann.
func (w world) lean(t *testing.T, o Options) *Store {
	s := New(o)
	var heads []string
	for _, c := range w.shown {
		heads = append(heads, c.name+" "+[]string{"int", "str", "bool"}[c.kind])
	}
	play(t, s, done("admin", "create t("+strings.Join(heads, ",")+")"))
	for _, row := range w.toOther.rows {
		var values []string
		for _, c := range w.shown {
			values = append(values, toldValue(row[c.name], c.kind))
		}
		play(t, s, done("admin", "load t ("+strings.Join(values, ",")+")"))
	}
	return s
}

func queryOf(r *rand.Rand, columns []column) (string, []modelStage) {
	text := "from t"
	var stages []modelStage
	for range r.Intn(5) {
		s := maker{r, columns}.stage()
		text += " | " + s.text
		stages = append(stages, s)
		columns = s.columns
	}
	return text, stages
}

// Queries at random against the test's own reckoning, for admin and for a user
// who is shown a part, in stores of all layouts, and in one that has nothing
// hidden.
func TestP13QueriesAgainstAReckoningOfItsOwn(t *testing.T) {
	r := rand.New(rand.NewSource(1))
	options := allOptions()
	count := map[Errno]int{}
	for range 1500 {
		w := newWorld(r)
		budget := r.Intn(30)
		if r.Intn(3) > 0 {
			budget = 100
		}
		var stores []*Store
		for range 4 {
			o := options[r.Intn(len(options))]
			o.Budget = budget
			stores = append(stores, w.store(t, o))
		}
		lean := w.lean(t, stores[0].options)
		for range 6 {
			text, stages := queryOf(r, w.columns)
			want, wrong := w.toAdmin.answer(stages, budget)
			seen, stagesSeen := queryOf(r, w.shown)
			wantSeen, wrongSeen := w.toOther.answer(stagesSeen, budget)
			if max(len(text), len(seen)) > maxText {
				continue
			}
			count[wrong.errno]++
			count[wrongSeen.errno]++
			for _, s := range stores {
				play(t, s, step{"admin", text, want, wrong.errno, wrong.place}, step{"ann", seen, wantSeen, wrongSeen.errno, wrongSeen.place})
			}
			play(t, lean, step{"admin", seen, wantSeen, wrongSeen.errno, wrongSeen.place})
			sameFor(t, stores[0], lean, text)
		}
		if t.Failed() {
			t.Fatalf("rows %q, grant on %v where %q", w.rows, w.shown, w.condition.text)
		}
	}
	if least := min(count[OK], count[ErrMath], count[ErrBudget]); least < 1000 {
		t.Errorf("%v: too few to tell", count)
	}
}

// sameFor asks what ann's query is answered, right or wrong, where rows and
// columns are hidden, and where there are none of these.
func sameFor(t *testing.T, full, lean *Store, text string) {
	t.Helper()
	a, e, place := full.Do("ann", text)
	b, f, at := lean.Do("admin", text)
	if a != b || e != f || place != at {
		t.Errorf("%q: %q, %d, %d to ann, but %q, %d, %d where nothing is hidden", text, a, e, place, b, f, at)
	}
}
