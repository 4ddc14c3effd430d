package quarry

import (
	"math"
	"strings"
	"testing"
)

func TestNumbersOfTheConstants(t *testing.T) {
	for want, e := range []Errno{OK, ErrLong, ErrText, ErrDeep, ErrDenied, ErrName, ErrTwice, ErrType, ErrFull, ErrMath, ErrBudget} {
		if int(e) != want {
			t.Errorf("error number %d is %d", want, e)
		}
	}
	for want, k := range []Kind{Int, Str, Bool} {
		if int(k) != want {
			t.Errorf("kind number %d is %d", want, k)
		}
	}
	for want, p := range []Packing{Plain, Runs, Dict, Bits} {
		if int(p) != want {
			t.Errorf("packing number %d is %d", want, p)
		}
	}
}

func TestP1OptionsAreHeldWithinBounds(t *testing.T) {
	for _, c := range []struct{ given, want Options }{
		{Options{}, Options{Segment: 1, Width: 1}},
		{Options{Segment: 1, Width: 1}, Options{Segment: 1, Width: 1}},
		{Options{Segment: 7, Packing: Dict, Width: 9, Prune: true, Push: true, Budget: 100}, Options{Segment: 7, Packing: Dict, Width: 9, Prune: true, Push: true, Budget: 100}},
		{Options{Segment: 16, Packing: Bits, Width: 16, Budget: 4096}, Options{Segment: 16, Packing: Bits, Width: 16, Budget: 4096}},
		{Options{Segment: 17, Packing: 4, Width: 17, Budget: 4097}, Options{Segment: 16, Width: 16, Budget: 4096}},
		{Options{Segment: -1, Packing: -1, Width: -1, Budget: -1}, Options{Segment: 1, Width: 1}},
		{Options{Segment: math.MaxInt, Packing: math.MaxInt, Width: math.MaxInt, Budget: math.MaxInt}, Options{Segment: 16, Width: 16, Budget: 4096}},
		{Options{Segment: math.MinInt, Packing: math.MinInt, Width: math.MinInt, Budget: math.MinInt}, Options{Segment: 1, Width: 1}},
		{Options{Segment: 2, Packing: Runs, Width: 15, Push: true, Budget: 1}, Options{Segment: 2, Packing: Runs, Width: 15, Push: true, Budget: 1}},
	} {
		s := New(c.given)
		if s == nil {
			t.Fatalf("New(%+v) = nil", c.given)
		}
		if s.options != c.want {
			t.Errorf("New(%+v) holds %+v, want %+v", c.given, s.options, c.want)
		}
	}
}

func TestP1StoresAreApart(t *testing.T) {
	if New(Options{}) == New(Options{}) {
		t.Error("two calls of New answer one store")
	}
}

func TestP1CallsOfAStoreEnd(t *testing.T) {
	texts := []string{"", "admin", "from t", "\x00\xff", strings.Repeat("(", 1000)}
	for _, s := range []*Store{nil, {}, New(Options{}), New(Options{Segment: math.MinInt, Packing: 99})} {
		for _, user := range texts {
			for _, command := range texts {
				s.Do(user, command)
				if n := s.Touched(); n != 0 {
					t.Errorf("Touched() = %d ahead of the first query", n)
				}
			}
		}
	}
}
