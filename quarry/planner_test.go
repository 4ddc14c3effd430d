package quarry

import (
	"maps"
	"math/big"
	"slices"
	"strconv"
	"strings"
)

// modelled is what a table is to a user, in the test's own reckoning.
type modelled struct {
	name    string
	columns []column
	rows    []tellers
}

// modelStage is a stage at random, and how the test works it out on its own: row
// by row, and in each column by column.
type modelStage struct {
	text    string
	columns []column
	work    func(rows []tellers, place int) ([]tellers, fault)
	joined  string // the table that it names
}

// planner writes stages over the maker's columns, with these tables at hand.
type planner struct {
	maker
	tables []modelled
}

func (p planner) stage() modelStage {
	switch p.r.Intn(10) {
	case 0, 1:
		return p.mapStage()
	case 2:
		return p.limitStage()
	case 3, 4:
		return p.orderStage()
	case 5, 6:
		return p.groupStage()
	case 7, 8:
		if s, can := p.joinStage(); can {
			return s
		}
	}
	return p.whereStage()
}

func (p planner) limitStage() modelStage {
	count := p.r.Intn(20)
	return modelStage{text: "limit " + strconv.Itoa(count), columns: p.columns, work: func(rows []tellers, _ int) ([]tellers, fault) {
		return rows[:min(count, len(rows))], fault{}
	}}
}

func (p planner) whereStage() modelStage {
	condition := p.make(Bool, p.r.Intn(4))
	if p.r.Intn(4) == 0 {
		condition = p.plainTest()
	}
	return modelStage{text: "where " + condition.text, columns: p.columns, work: func(rows []tellers, place int) ([]tellers, fault) {
		var out []tellers
		for _, row := range rows {
			x := condition.at(place+len("where "), row)
			if x.errs {
				return nil, fault{ErrMath, x.place}
			}
			if !x.null && x.n.Sign() == 1 {
				out = append(out, row)
			}
		}
		return out, fault{}
	}}
}

// plainTest is a condition of the kind by which segments are skipped.
func (p planner) plainTest() made {
	c := p.columns[p.r.Intn(len(p.columns))]
	text := map[Kind]string{Int: p.pick("0", "1", "2", "5", "-1", "- 4", "9223372036854775807"), Str: p.pick("''", "'a'", "'b'", "'c'"), Bool: p.pick("true", "false")}[c.kind]
	o, value := p.pick("=", "=", "<>", "<", "<=", ">", ">="), valueOf(strings.ReplaceAll(text, " ", ""))
	return made{c.name + " " + o + " " + text, func(row tellers) told {
		if row[c.name].null {
			return told{null: true}
		}
		return truthTold(holds(o, compareTold(row[c.name], value)))
	}}
}

func (p planner) mapStage() modelStage {
	text := "map "
	var columns []column
	var values []made
	var places []int
	names := []string{"n", "s", "b", "m", "x", "y"}
	for _, i := range p.r.Perm(len(names))[:1+p.r.Intn(4)] {
		c := column{names[i], Kind(p.r.Intn(3))}
		value := p.make(c.kind, p.r.Intn(3))
		text += c.name + " = "
		places = append(places, len(text))
		text += value.text + ","
		columns, values = append(columns, c), append(values, value)
	}
	return modelStage{text: strings.TrimSuffix(text, ","), columns: columns, work: func(rows []tellers, place int) ([]tellers, fault) {
		var out []tellers
		for _, row := range rows {
			fresh := tellers{}
			for i, c := range columns {
				x := values[i].at(place+places[i], row)
				if x.errs {
					return nil, fault{ErrMath, x.place}
				}
				fresh[c.name] = x
			}
			out = append(out, fresh)
		}
		return out, fault{}
	}}
}

func (p planner) joinStage() (s modelStage, can bool) {
	t := p.tables[p.r.Intn(len(p.tables))]
	var pairs [][2]string
	for _, l := range p.columns {
		for _, r := range t.columns {
			if l.name == r.name {
				return s, false
			}
			if l.kind == r.kind {
				pairs = append(pairs, [2]string{l.name, r.name})
			}
		}
	}
	if len(pairs) == 0 {
		return s, false
	}
	on := pairs[p.r.Intn(len(pairs))]
	return modelStage{"join " + t.name + " on " + on[0] + " = " + on[1], slices.Concat(p.columns, t.columns), func(rows []tellers, _ int) ([]tellers, fault) {
		var out []tellers
		for _, l := range rows {
			for _, r := range t.rows {
				if x, y := l[on[0]], r[on[1]]; !x.null && !y.null && compareTold(x, y) == 0 {
					both := maps.Clone(l)
					for _, c := range t.columns {
						both[c.name] = r[c.name]
					}
					out = append(out, both)
				}
			}
		}
		return out, fault{}
	}, t.name}, true
}

func (p planner) orderStage() modelStage {
	var texts []string
	var keys []column
	var down []bool
	for range 1 + p.r.Intn(3) {
		c := p.columns[p.r.Intn(len(p.columns))]
		keys, down = append(keys, c), append(down, p.r.Intn(2) == 0)
		texts = append(texts, c.name+map[bool]string{true: " down"}[down[len(down)-1]])
	}
	behind := func(row, other tellers) bool {
		for i, c := range keys {
			order := compareTold(row[c.name], other[c.name])
			if down[i] {
				order = -order
			}
			if order != 0 {
				return order > 0
			}
		}
		return false
	}
	return modelStage{text: "order " + strings.Join(texts, ", "), columns: p.columns, work: func(rows []tellers, _ int) ([]tellers, fault) {
		out := slices.Clone(rows)
		for i := range out {
			for j := i; j > 0 && behind(out[j-1], out[j]); j-- {
				out[j-1], out[j] = out[j], out[j-1]
			}
		}
		return out, fault{}
	}}
}

// modelMade is a made column of a group; of is empty where rows are counted.
type modelMade struct {
	column
	way, of string
	place   int // of its word, in the stage's text
}

func (p planner) groupStage() modelStage {
	var keys []column
	for _, i := range p.r.Perm(len(p.columns))[:p.r.Intn(min(3, len(p.columns)+1))] {
		keys = append(keys, p.columns[i])
	}
	var heads []string
	for _, c := range keys {
		heads = append(heads, c.name)
	}
	text := "group " + strings.Join(heads, ",") + " : "
	var makes []modelMade
	columns := slices.Clone(keys)
	for _, name := range []string{"n", "x", "y", "z"}[:1+p.r.Intn(4)] {
		if slices.Contains(heads, name) {
			continue
		}
		m := p.made(name)
		m.place = len(text + name + " = ")
		text += name + " = " + m.way + "(" + m.of + "), "
		makes, columns = append(makes, m), append(columns, m.column)
	}
	if len(makes) == 0 {
		return p.limitStage()
	}
	return modelStage{text: strings.TrimSuffix(text, ", "), columns: columns, work: func(rows []tellers, place int) ([]tellers, fault) {
		return groupRows(rows, keys, makes, place)
	}}
}

func (p planner) made(name string) modelMade {
	c := p.columns[p.r.Intn(len(p.columns))]
	way := p.pick("count", "count()", "sum", "sum", "min", "max")
	switch {
	case way == "count()":
		return modelMade{column: column{name, Int}, way: "count"}
	case way == "count", way == "sum" && c.kind != Int:
		return modelMade{column: column{name, Int}, way: "count", of: c.name}
	}
	return modelMade{column: column{name, c.kind}, way: way, of: c.name}
}

func groupRows(rows []tellers, keys []column, makes []modelMade, place int) ([]tellers, fault) {
	same := func(row, other tellers) bool {
		return !slices.ContainsFunc(keys, func(c column) bool { return compareTold(row[c.name], other[c.name]) != 0 })
	}
	membersOf := func(row tellers, upTo int) []tellers {
		return slices.DeleteFunc(slices.Clone(rows[:upTo]), func(other tellers) bool { return !same(row, other) })
	}
	var out []tellers
	for i, row := range rows {
		for _, m := range makes {
			if x := m.over(membersOf(row, i+1)); !x.null && x.n != nil && !x.n.IsInt64() {
				return nil, fault{ErrMath, place + m.place}
			}
		}
		if len(membersOf(row, i)) > 0 {
			continue
		}
		fresh := tellers{}
		for _, c := range keys {
			fresh[c.name] = row[c.name]
		}
		for _, m := range makes {
			fresh[m.name] = m.over(membersOf(row, len(rows)))
		}
		out = append(out, fresh)
	}
	return out, fault{}
}

// over works the made column out for the rows of a group.
func (m modelMade) over(members []tellers) told {
	if m.of == "" {
		return numberTold(int64(len(members)))
	}
	var values []told
	for _, row := range members {
		if x := row[m.of]; !x.null {
			values = append(values, x)
		}
	}
	switch {
	case m.way == "count":
		return numberTold(int64(len(values)))
	case len(values) == 0:
		return told{null: true}
	case m.way == "min":
		return slices.MinFunc(values, compareTold)
	case m.way == "max":
		return slices.MaxFunc(values, compareTold)
	}
	sum := new(big.Int)
	for _, x := range values {
		sum.Add(sum, x.n)
	}
	return told{n: sum}
}

// compareTold compares two values of one kind, with null below all.
func compareTold(x, y told) int {
	switch {
	case x.null && y.null:
		return 0
	case x.null:
		return -1
	case y.null:
		return 1
	case x.n != nil:
		return x.n.Cmp(y.n)
	}
	return strings.Compare(x.s, y.s)
}
