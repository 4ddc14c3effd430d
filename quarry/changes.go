package quarry

import (
	"maps"
	"slices"
)

// command is what a text asks for: a change or a query.
type command any

// change is a command of admin's. It changes nothing where it answers a fault.
type change interface {
	apply(s *Store) fault
}

type (
	create struct {
		table   name
		columns []newColumn
	}
	drop struct {
		table name
	}
	load struct {
		table name
		rows  []newRow
	}
	grant struct {
		user, table name
		columns     []name
		condition   formula
	}
	revoke struct {
		user, table name
	}
)

type newColumn struct {
	name name
	kind Kind
}

type newRow struct {
	place  int
	values []newValue
}

// newValue is a cell to be loaded. The kind of null is of no meaning.
type newValue struct {
	place int
	kind  Kind
	cell  Cell
}

func (c create) apply(s *Store) fault {
	if s.tables[c.table.text] != nil {
		return fault{ErrTwice, c.table.place}
	}
	var columns []column
	for _, n := range c.columns {
		if indexOf(columns, n.name.text) >= 0 {
			return fault{ErrTwice, n.name.place}
		}
		columns = append(columns, column{n.name.text, n.kind})
	}
	if len(s.tables) >= maxTables || len(columns) > maxColumns {
		return fault{ErrFull, 0}
	}
	s.tables[c.table.text] = &table{columns: columns}
	return fault{}
}

func (c drop) apply(s *Store) fault {
	if s.tables[c.table.text] == nil {
		return fault{ErrName, c.table.place}
	}
	delete(s.tables, c.table.text)
	maps.DeleteFunc(s.grants, func(k grantKey, _ granted) bool { return k.table == c.table.text })
	return fault{}
}

func (c load) apply(s *Store) fault {
	t := s.tables[c.table.text]
	if t == nil {
		return fault{ErrName, c.table.place}
	}
	for _, r := range c.rows {
		if wrong := r.against(t.columns); wrong.is() {
			return wrong
		}
	}
	if t.rows+len(c.rows) > maxRows {
		return fault{ErrFull, 0}
	}
	t.add(c.byColumns(len(t.columns)), s.options)
	return fault{}
}

func (r newRow) against(columns []column) fault {
	if len(r.values) != len(columns) {
		return fault{ErrType, r.place}
	}
	for i, v := range r.values {
		if !v.cell.Null && v.kind != columns[i].kind {
			return fault{ErrType, v.place}
		}
	}
	return fault{}
}

func (c load) byColumns(columns int) batch {
	out := make(batch, columns)
	for i := range out {
		for _, r := range c.rows {
			out[i] = append(out[i], r.values[i].cell)
		}
	}
	return out
}

func (c grant) apply(s *Store) fault {
	t := s.tables[c.table.text]
	if t == nil {
		return fault{ErrName, c.table.place}
	}
	shown, wrong := c.shownOf(t.columns)
	if wrong.is() {
		return wrong
	}
	if wrong := c.condition.asCondition(t.columns); wrong.is() {
		return wrong
	}
	key := grantKey{c.user.text, c.table.text}
	if _, there := s.grants[key]; !there && len(s.grants) >= maxGrants {
		return fault{ErrFull, 0}
	}
	s.grants[key] = granted{shown, compile(c.condition.root, t.columns)}
	return fault{}
}

// shownOf answers which columns are granted, in the table's order.
func (c grant) shownOf(columns []column) ([]int, fault) {
	var shown []int
	for _, n := range c.columns {
		i := indexOf(columns, n.text)
		if i < 0 {
			return nil, fault{ErrName, n.place}
		}
		if slices.Contains(shown, i) {
			return nil, fault{ErrTwice, n.place}
		}
		shown = append(shown, i)
	}
	slices.Sort(shown)
	return shown, fault{}
}

// asCondition answers the first fault that an expression has as a condition
// over these columns.
func (f formula) asCondition(columns []column) fault {
	kind, wrong := f.root.kindOver(columns)
	if !wrong.is() && kind != Bool {
		return fault{ErrType, f.place}
	}
	return wrong
}

func (c revoke) apply(s *Store) fault {
	key := grantKey{c.user.text, c.table.text}
	if _, there := s.grants[key]; !there {
		return fault{ErrName, c.user.place}
	}
	delete(s.grants, key)
	return fault{}
}
