package quarry

import "iter"

// column is what a column is called, and of which kind its cells are.
type column struct {
	name string
	kind Kind
}

// batch is some rows, kept by columns, of which there is at least one.
type batch [][]Cell

func (b batch) rows() int { return len(b[0]) }

func (b batch) part(from, to int) batch {
	out := make(batch, len(b))
	for i := range out {
		out[i] = b[i][from:to]
	}
	return out
}

// pick answers some of the rows, in the order in which they are named.
func (b batch) pick(rows []int) batch {
	out := make(batch, len(b))
	for i, cells := range b {
		out[i] = make([]Cell, len(rows))
		for j, row := range rows {
			out[i][j] = cells[row]
		}
	}
	return out
}

// pieces goes through the rows in order, some at once.
func (b batch) pieces(rows int) iter.Seq[batch] {
	return func(yield func(batch) bool) {
		for from := 0; from < b.rows(); from += rows {
			if !yield(b.part(from, min(from+rows, b.rows()))) {
				return
			}
		}
	}
}

// segment is a few rows of a table: of each column the packed text and the zone.
type segment struct {
	rows  int
	texts []string
	zones []zone
}

type table struct {
	columns  []column
	segments []segment
	rows     int
}

// add lays rows, given by columns, behind those that the table has. A last
// segment with room is packed anew together with them, so that all segments but
// the last one are always full.
func (t *table) add(more batch, o Options) {
	if begun := t.rows % o.Segment; begun > 0 {
		last := len(t.segments) - 1
		more = joined(t.segments[last].unpacked(), more)
		t.segments = t.segments[:last]
		t.rows -= begun
	}
	for part := range more.pieces(o.Segment) {
		t.segments = append(t.segments, t.packed(part, o.Packing))
	}
	t.rows += more.rows()
}

func joined(first, second batch) batch {
	out := make(batch, len(first))
	for i := range out {
		out[i] = append(first[i], second[i]...)
	}
	return out
}

func (t *table) packed(rows batch, p Packing) segment {
	out := segment{rows: rows.rows()}
	for i, cells := range rows {
		text, _ := Pack(p, t.columns[i].kind, cells)
		out.texts = append(out.texts, text)
		out.zones = append(out.zones, zoneOf(cells))
	}
	return out
}

func (s segment) unpacked() batch {
	out := make(batch, len(s.texts))
	for i, text := range s.texts {
		_, out[i], _ = Unpack(text)
	}
	return out
}
