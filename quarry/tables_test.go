package quarry

import (
	"slices"
	"testing"
)

// However a table's rows come, they lie in segments as if they had come at once.
func TestRowsLieInFullSegmentsButForTheLast(t *testing.T) {
	for _, o := range allOptions() {
		for piece := 1; piece <= 33; piece++ {
			s := New(o)
			play(t, s, done("admin", "create t(a int)"))
			kept := s.tables["t"]
			var all []Cell
			for len(all)+piece <= maxRows {
				more := make([]Cell, piece)
				for i := range more {
					more[i].N = len(all) + i
				}
				all = append(all, more...)
				kept.add(batch{more}, o)
			}
			if kept.rows != len(all) {
				t.Fatalf("%+v, pieces of %d: %d rows, want %d", o, piece, kept.rows, len(all))
			}
			var want []string
			for part := range slices.Chunk(all, o.Segment) {
				text, _ := Pack(o.Packing, Int, part)
				want = append(want, text)
			}
			var got []string
			for _, x := range kept.segments {
				got = append(got, x.texts...)
			}
			if !slices.Equal(got, want) {
				t.Fatalf("%+v, pieces of %d: segments %q, want %q", o, piece, got, want)
			}
		}
	}
}
