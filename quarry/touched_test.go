package quarry

import (
	"math/rand"
	"slices"
	"strconv"
	"strings"
	"testing"
)

// touches asks a query that is answered OK, and how many segments it read.
func touches(t *testing.T, s *Store, user, text string) int {
	t.Helper()
	if _, e, place := s.Do(user, text); e != OK {
		t.Errorf("Do(%q, %q): %d, %d", user, text, e, place)
	}
	return s.Touched()
}

// twoTables has the tables t of 7 rows and u of 4, and ann sees a few of these.
func twoTables(t *testing.T, o Options) *Store {
	t.Helper()
	s := New(o)
	play(t, s,
		done("admin", "create t(a int,b str)"), done("admin", "load t (1,'x')(2,'y')(3,null)"), done("admin", "load t (null,'x')(5,'y')"), done("admin", "load t (6,'z')(7,'x')"),
		done("admin", "create u(k int,s str)"), done("admin", "load u (1,'p')(5,'q')(5,null)(8,'r')"), done("admin", "create v(c int)"),
		done("admin", "grant ann on t (a) where a < 3"), done("admin", "grant ann on u (k,s) where false"),
	)
	return s
}

func TestP14WithoutPruneEverySegmentIsReadOnceForEachTimeItsTableIsNamed(t *testing.T) {
	for _, o := range allOptions() {
		o.Prune = false
		s := twoTables(t, o)
		inT, inU := (7+o.Segment-1)/o.Segment, (4+o.Segment-1)/o.Segment
		for _, x := range []struct {
			text string
			want int
		}{
			{"from t", inT}, {"from u", inU}, {"from v", 0}, {"from t | where a = 2", inT}, {"from t | where a = 70", inT}, {"from t | where false", inT}, {"from t | limit 0", inT}, {"from t | map x = 1 | limit 1 | where x = 2", inT}, {"from t | order a", inT}, {"from t | group : n = count()", inT}, {"from t | where a = 70 | where 1 / 0 = 1", inT},
			{"from t | join u on a = k", inT + inU}, {"from u | join t on k = a", inT + inU}, {"from t | where false | join u on a = k", inT + inU}, {"from t | limit 0 | join u on a = k", inT + inU}, {"from t | map x = a | join t on x = a", inT + inT}, {"from t | map x = a | join t on x = a | join u on x = k", inT + inT + inU}, {"from t | join u on a = k | map x = s | join u on x = s", inT + inU + inU}, {"from v | join t on c = a", inT}, {"from t | join v on a = c", inT},
		} {
			if got := touches(t, s, "admin", x.text); got != x.want {
				t.Errorf("%+v: %q touches %d segments, want %d", o, x.text, got, x.want)
			}
		}
		// What is hidden is read all the same.
		for text, want := range map[string]int{"from t": inT, "from u": inU, "from t | where a = 2": inT, "from t | join u on a = k": inT + inU} {
			if got := touches(t, s, "ann", text); got != want {
				t.Errorf("%+v: %q by ann touches %d segments, want %d", o, text, got, want)
			}
		}
	}
}

func TestP14TouchedIsOfTheLastQueryAnsweredOK(t *testing.T) {
	var none *Store
	if n := none.Touched(); n != 0 {
		t.Errorf("no store: Touched() = %d", n)
	}
	for _, prune := range []bool{false, true} {
		s := twoTables(t, Options{Segment: 2, Width: 2, Prune: prune, Budget: 14})
		other := twoTables(t, Options{Segment: 2, Width: 2, Prune: prune, Budget: 14})
		others := []step{
			fails("^", ErrText), fails("from ^w", ErrName), fails("from t | where ^a", ErrType), fails("from t | map x = 1 ^/ 0", ErrMath), fails("from u | map x = 1 ^/ 0", ErrMath), fails("from t | map x = a | ^limit 1", ErrBudget), fails("from u | join ^u on k = k", ErrTwice), refused("eve", "from u", ErrName, 5), refused("eve", "drop u", ErrDenied, 0), fails("drop ^w", ErrName), refused("admin", strings.Repeat(" ", 301), ErrLong, 0),
			done("admin", "grant bob on u (k) where true"), done("admin", "revoke bob on u"), done("admin", "create w(a int)"), done("admin", "load w (1)"), done("admin", "drop w"),
		}
		for _, x := range []struct {
			text string
			want int
		}{{"", 0}, {"from t", 4}, {"from u", 2}, {"from t | limit 0", 4}, {"from v | where c = 0", 0}, {"from u | where false | join t on k = a", 6}} {
			if x.text != "" {
				touches(t, s, "admin", x.text)
			}
			if n := s.Touched(); n != x.want {
				t.Errorf("%q: Touched() = %d, want %d", x.text, n, x.want)
			}
			for _, y := range others {
				play(t, s, y)
				if n := s.Touched(); n != x.want {
					t.Errorf("%q: Touched() = %d, and behind %q %d", x.text, x.want, y.text, n)
				}
			}
			if n := other.Touched(); n != 0 {
				t.Errorf("of another store: %d", n)
			}
		}
	}
}

// What a comparison of a column with a constant must leave unread, and what not.
func TestP14PruneLeavesSegmentsUnread(t *testing.T) {
	for _, push := range []bool{false, true} {
		for p := Plain; p <= Bits; p++ {
			s := New(Options{Segment: 3, Packing: p, Width: 2, Prune: true, Push: push, Budget: maxBudget})
			play(t, s, done("admin", "create t(a int,b int,s str,f bool)"),
				done("admin", "load t (1,5,'a',true)(3,null,'c',true)"), done("admin", "load t (2,null,'b',null)(null,null,null,null)(null,null,'d',null)"), done("admin", "load t (null,null,null,null)(-5,0,'f',false)(9223372036854775807,0,'e',true)(null,7,'',null)(-9223372036854775807,-3,'z',false)"))
			for _, x := range []struct {
				text       string
				want, rows int
			}{
				{"a = 0", 1, 0}, {"a = 1", 2, 1}, {"a = 2", 2, 1}, {"a = 3", 2, 1}, {"a = 4", 1, 0}, {"a = 9223372036854775807", 1, 1}, {"a = 9223372036854775806", 1, 0}, {"a = -5", 1, 1}, {"a = - 6", 0, 0}, {"a = -4", 1, 0}, {"a = -9223372036854775807", 1, 1}, {"a = --2", 2, 1}, {"(a) = (2)", 2, 1}, {"(((a = (-5))))", 1, 1},
				{"b = 5", 2, 1}, {"b = 4", 1, 0}, {"b = 6", 1, 0}, {"b = 7", 1, 1}, {"b = 8", 0, 0}, {"b = -3", 1, 1}, {"b = -4", 0, 0}, {"b = 0", 1, 2},
				{"a < 1", 2, 2}, {"a < -5", 1, 1}, {"a <= 1", 3, 3}, {"a > 3", 1, 1}, {"a >= 3", 2, 2}, {"a <> 2", 3, 5}, {"b <> 5", 2, 4}, {"b <> -3", 2, 4},
				{"s = 'b'", 2, 1}, {"s = 'd'", 2, 1}, {"s = 'y'", 0, 0}, {"s > 'f'", 1, 1}, {"s = ''", 1, 1}, {"f = false", 2, 2}, {"f = true", 2, 3}, {"f < true", 2, 2}, {"f <> true", 2, 2},
				// What is none of these is read, whatever it is.
				{"f and true", 4, 3}, {"f or false", 4, 3}, {"f or true", 4, 10}, {"f", 4, 3}, {"not f", 4, 2}, {"not a = 7", 4, 6}, {"b + 1 = 6", 4, 1}, {"a = b", 4, 0}, {"a = -b", 4, 0}, {"f = (not true)", 4, 2}, {"2 = a", 4, 1}, {"a is null", 4, 4}, {"(a = 7) is null", 4, 4}, {"a = 2 or f", 4, 4}, {"not (not f)", 4, 3}, {"a % 2 = 1", 4, 3},
			} {
				for _, behind := range []string{"", " | where true", " | map y = 1", " | order b | limit 70"} {
					text := "from t | where " + x.text + behind
					got := touches(t, s, "admin", text)
					answer, _, _ := s.Do("admin", text)
					if got != x.want || strings.Count(answer, "\n") != x.rows+1 {
						t.Errorf("%q touches %d segments, want %d, and answers %q", text, got, x.want, answer)
					}
				}
			}
		}
	}
}

// Only the first condition leaves segments unread, and for admin alone: all
// others hang on rows that have to be counted.
func TestP14PruneIsNotTold(t *testing.T) {
	for _, o := range allOptions() {
		if !o.Prune {
			continue
		}
		for _, x := range []struct {
			budget int
			asked  step
		}{
			{6, fails("^from t | where n = 2", ErrBudget)}, {6, fails("^from t | where n = 20", ErrBudget)}, {7, tells("admin", "from t | where n = 20", "n:int,a:int,b:int\n")}, {7, fails("from t | ^where n = 2", ErrBudget)}, {8, tells("admin", "from t | where n = 2", "n:int,a:int,b:int\n2,2,2\n")},
			{13, fails("from t | ^where n > 0 | where n = 20", ErrBudget)}, {14, tells("admin", "from t | where n > 0 | where n = 20", "n:int,a:int,b:int\n")}, {8, fails("from t | where n = 2 | ^where n < 3 | where n = 20", ErrBudget)}, {9, tells("admin", "from t | where n = 2 | where n < 3 | where n = 20", "n:int,a:int,b:int\n")},
			{4, tells("ann", "from t | where n = 20", "n:int,a:int,b:int\n")}, {3, refused("ann", "from t | where n = 20", ErrBudget, 0)}, {4, refused("ann", "from t | where n = 3", ErrBudget, 9)}, {5, tells("ann", "from t | where n = 3", "n:int,a:int,b:int\n3,3,3\n")},
			{7, fails("from t | where n = 1 ^/ 0", ErrMath)}, {7, fails("from t | where 1 ^/ 0 = n", ErrMath)}, {7, fails("from t | where n = 20 and ^x", ErrName)}, {14, fails("from t | limit 7 | where n = 6 ^/ (n - n)", ErrMath)}, {14, tells("admin", "from t | limit 7 | where n = 20", "n:int,a:int,b:int\n")},
		} {
			o.Budget = x.budget
			play(t, numbered(t, o, 7, 0, 0), x.asked)
		}
	}
}

// Rows at random: with Prune, `where c = n` reads no segment that it need not,
// and answers what it does without.
func TestP14PruneAgainstAReckoningOfItsOwn(t *testing.T) {
	r := rand.New(rand.NewSource(1))
	options := allOptions()
	skipped, read := 0, 0
	for range 400 {
		o := options[r.Intn(len(options))]
		o.Prune = false
		plain := New(o)
		o.Prune = true
		s := New(o)
		play(t, plain, done("admin", "create t(c int)"))
		play(t, s, done("admin", "create t(c int)"))
		var cells []Cell
		for range r.Intn(30) {
			c := Cell{N: r.Intn(9) - 4}
			text := strconv.Itoa(c.N)
			if r.Intn(3) == 0 {
				c, text = Cell{Null: true}, "null"
			}
			cells = append(cells, c)
			play(t, plain, done("admin", "load t ("+text+")"))
			play(t, s, done("admin", "load t ("+text+")"))
		}
		for n := -5; n <= 5; n++ {
			text := "from t | where c = " + strconv.Itoa(n)
			most := 0
			for segment := range slices.Chunk(cells, o.Segment) {
				if worthReading(segment, n) {
					most++
				}
			}
			want, _, _ := plain.Do("admin", text)
			play(t, s, tells("admin", text, want))
			if s.Touched() > most {
				t.Errorf("%+v, %v: %q touches %d segments, %d at most", o, cells, text, s.Touched(), most)
			}
			read += s.Touched()
			skipped += plain.Touched() - s.Touched()
		}
	}
	if skipped < 1000 || read < 1000 {
		t.Errorf("%d segments read and %d skipped: too few to tell", read, skipped)
	}
}

func worthReading(segment []Cell, n int) bool {
	below, above, equal := 0, 0, 0
	for _, c := range segment {
		switch {
		case c.Null:
		case c.N < n:
			below++
		case c.N > n:
			above++
		default:
			equal++
		}
	}
	return equal > 0 || below > 0 && above > 0
}

func TestZones(t *testing.T) {
	null := Cell{Null: true}
	for _, x := range []struct {
		cells []Cell
		want  zone
	}{
		{nil, zone{empty: true}}, {[]Cell{null, null}, zone{empty: true}}, {[]Cell{{N: 0}}, zone{}}, {[]Cell{null, {N: 4}, null}, zone{least: Cell{N: 4}, greatest: Cell{N: 4}}}, {[]Cell{{N: 4}, {N: -4}, null, {N: 0}}, zone{least: Cell{N: -4}, greatest: Cell{N: 4}}}, {[]Cell{{N: 1}, {N: 2}, {N: 3}}, zone{least: Cell{N: 1}, greatest: Cell{N: 3}}}, {[]Cell{{N: 3}, {N: 2}, {N: 1}}, zone{least: Cell{N: 1}, greatest: Cell{N: 3}}},
		{[]Cell{{S: "b"}, {S: ""}, {S: "ab"}, null}, zone{greatest: Cell{S: "b"}}}, {[]Cell{{S: "b"}, {S: "ba"}, {S: "c"}}, zone{least: Cell{S: "b"}, greatest: Cell{S: "c"}}}, {[]Cell{null, {N: 1}, {N: 1}}, zone{least: Cell{N: 1}, greatest: Cell{N: 1}}},
	} {
		if got := zoneOf(x.cells); got != x.want {
			t.Errorf("%v: %v, want %v", x.cells, got, x.want)
		}
	}
}
