package quarry

import (
	"strconv"
	"strings"
	"testing"
)

func TestP8ErrorsOfStages(t *testing.T) {
	for _, rows := range []string{"", "load t (1,'x',true)(0,null,false)"} {
		for _, o := range []Options{roomy, {Push: true, Budget: 100}, {Prune: true, Push: true}, {}} {
			s := New(o)
			play(t, s, done("admin", "create t(n int,s str,b bool)"), done("admin", "create u(d int)"))
			s.Do("admin", rows)
			play(t, s,
				fails("from ^v | where d", ErrName), fails("from ^v | map x = 1, x = 1", ErrName), fails("from ^n | limit 1", ErrName),
				fails("from t | where ^d", ErrName), fails("from t | where b and ^d = 1", ErrName), fails("from t | where ^t", ErrName), fails("from t | where ^s", ErrType), fails("from t | where n ^= s", ErrType),
				fails("from t | map x = ^d", ErrName), fails("from t | map x = n ^+ s", ErrType), fails("from t | map x = n, y = ^d, z = n + s", ErrName), fails("from t | map x = n, y = ^not n, z = d", ErrType),
				fails("from t | map x = n, ^x = s", ErrTwice), fails("from t | map x = n, y = s, ^y = d, x = d", ErrTwice), fails("from t | map x = n, ^x = s, x = n", ErrTwice), fails("from t | map n = n, ^n = n", ErrTwice),
				// Of each name first whether it stands there already, then its expression.
				fails("from t | map x = n, ^x = d", ErrTwice), fails("from t | map x = ^d, x = n", ErrName), fails("from t | map x = n, ^x = n + s", ErrTwice), fails("from t | map x = n ^+ s, x = d", ErrType), fails("from t | map x = n, y = ^d, x = n", ErrName),
				// A stage has the columns that the one ahead of it made, and no others.
				fails("from t | map x = n, y = ^x", ErrName), fails("from t | map x = n | where ^n = 1", ErrName), fails("from t | map x = n | map y = x | where ^x = 1", ErrName), fails("from t | map n = s | where n ^= 1", ErrType), fails("from t | map n = b | map x = ^-n", ErrType), fails("from t | map x = b | where ^b", ErrName), fails("from t | limit 1 | where ^d", ErrName), fails("from t | where b | limit 3 | map x = ^d", ErrName),
				// Stage by stage from the left, and all of them ahead of the first row.
				fails("from t | where ^d | where s", ErrName), fails("from t | where ^s | where d", ErrType), fails("from t | map x = n, ^x = n | where d", ErrTwice), fails("from t | where 1 / 0 = 1 | where ^d", ErrName), fails("from t | map x = 1 / 0 | where x ^= 'a'", ErrType), fails("from t | where 1 / 0 = 1 | limit 0 | map x = 1, ^x = 1", ErrTwice),
				refused("ann", "from t | where d", ErrName, 5), refused("ann", "from v | where d", ErrName, 5), refused("ann", "from t | map x = 1, x = 1", ErrName, 5),
			)
		}
	}
}

func TestP9Kinds(t *testing.T) {
	s := New(roomy)
	play(t, s, done("admin", "create t(n int,s str,b bool)"))
	is := func(marked, kind string, taken bool) {
		t.Helper()
		asked := fails("from t | map x = "+marked, ErrType)
		if taken {
			asked = tells("admin", asked.text, "x:"+kind+"\n")
		}
		play(t, s, asked)
	}
	names := []string{Int: "n", Str: "s", Bool: "b"}
	for left, l := range names {
		for right, r := range names {
			for _, o := range strings.Fields("+ - * / %") {
				is(l+" ^"+o+" "+r, "int", Kind(left) == Int && Kind(right) == Int)
			}
			for _, o := range strings.Fields("= <> < <= > >=") {
				is(l+" ^"+o+" "+r, "bool", left == right)
			}
			for _, o := range []string{"and", "or"} {
				is(l+" ^"+o+" "+r, "bool", Kind(left) == Bool && Kind(right) == Bool)
			}
		}
		is("^-"+l, "int", Kind(left) == Int)
		is("^not "+l, "bool", Kind(left) == Bool)
		is(l+" is null", "bool", true)
		is(l+" is not null", "bool", true)
	}
	play(t, s,
		tells("admin", "from t | map x = n, y = s, z = b, u = 1, v = 'a', w = true", "x:int,y:str,z:bool,u:int,v:str,w:bool\n"),
		tells("admin", "from t | map x = (n), y = ((s)), z = (n = 1) is null | map x = z, z = y", "x:bool,z:str\n"),
	)
}

// mapped tells what an expression is for each row of a table.
func mapped(t *testing.T, s *Store, expression string) string {
	t.Helper()
	text, e, place := s.Do("admin", "from t | map x = "+expression)
	if e != OK {
		return strconv.Itoa(int(e)) + " at " + strconv.Itoa(place-len("from t | map x = "))
	}
	_, rows, _ := strings.Cut(strings.TrimSuffix(text, "\n"), "\n")
	return strings.ReplaceAll(rows, "\n", " ")
}

func TestP10ValuesOfExpressions(t *testing.T) {
	s := New(roomy)
	play(t, s, done("admin", "create t(n int,m int,s str,b bool)"), done("admin", "load t (7,2,'a',true)(-7,2,'ab',false)(7,-2,'',null)(null,0,null,true)"))
	for _, x := range []struct{ expression, want string }{
		{"n", "7 -7 7 null"}, {"5", "5 5 5 5"}, {"'it'", "'it' 'it' 'it' 'it'"}, {"false", "false false false false"}, {"-n", "-7 7 -7 null"}, {"- -n", "7 -7 7 null"},
		{"n + m", "9 -5 5 null"}, {"m + n", "9 -5 5 null"}, {"n - m", "5 -9 9 null"}, {"n * m", "14 -14 -14 null"}, {"n / m", "3 -3 -3 null"}, {"n % m", "1 -1 1 null"}, {"n / 8", "0 0 0 null"}, {"n % 8", "7 -7 7 null"}, {"0 / n", "0 0 0 null"}, {"0 % n", "0 0 0 null"},
		{"n / m * m + n % m", "7 -7 7 null"}, {"1 + n * 2 - 3 % 2", "14 -14 14 null"},
		{"n = 7", "true false true null"}, {"n <> 7", "false true false null"}, {"n < m", "false true false null"}, {"n >= m", "true false true null"}, {"m <= 0", "false false true true"}, {"m > -2", "true true false true"},
		{"s < 'ab'", "true false true null"}, {"s <= 'ab'", "true true true null"}, {"'a' = s", "true false false null"}, {"s > ''", "true true false null"},
		{"b < true", "false true null false"}, {"false <= b", "true true null true"}, {"b = b", "true true null true"}, {"b <> (n > 0)", "false false null null"},
		{"not b", "false true null false"}, {"n is null", "false false false true"}, {"b is not null", "true true false true"}, {"(n = 7) is null", "false false false true"},
		{"b and n = 7", "true false null null"}, {"n = 7 and b", "true false null null"}, {"b or n = 7", "true false true true"}, {"n = 7 or b", "true false true true"}, {"b and false", "false false false false"}, {"false or b", "true false null true"}, {"b and b", "true false null true"}, {"b or b", "true false null true"}, {"n = 0 or b", "true false null true"}, {"n = 0 and b", "false false false null"}, {"n <> 0 or b", "true true true true"}, {"b and n <> 0", "true false null null"},
		// What errs tells its operator's place, unless it is not worked out.
		{"n / 0", "9 at 2"}, {"n % 0", "9 at 2"}, {"m / m", "9 at 2"}, {"n + 1 / (m - m)", "9 at 6"}, {"1 / (m - m) + n", "9 at 2"}, {"1 % 0 - 1 / 0", "9 at 2"}, {"-(1 / 0)", "9 at 4"}, {"(1 / 0) is null", "9 at 3"}, {"not 1 / 0 = 1", "9 at 6"}, {"1 / 0 = 2 % 0", "9 at 2"}, {"n = 2 % 0", "9 at 6"}, {"(n = 1 / 0) is null", "9 at 7"},
		{"m = 0 or n / m < 9", "true true true true"}, {"m <> 0 and n / m > 0", "true false false false"}, {"n / m < 9 or 1 / m = 0", "9 at 15"}, {"b or 1 / 0 = 1", "9 at 7"}, {"true or 1 / 0 = 1", "true true true true"}, {"1 / 0 = 1 or true", "9 at 2"}, {"1 % 0 = 1 and false", "9 at 2"}, {"false and 1 / 0 = 1 or b", "true false null true"}, {"n is null or n % m < 7", "true true true true"}, {"n is null and 1 % m = 1", "9 at 16"},
		{"9223372036854775807 + m", "9 at 20"}, {"-9223372036854775807 - m", "9 at 21"}, {"-9223372036854775807 - 1", "-9223372036854775808 -9223372036854775808 -9223372036854775808 -9223372036854775808"}, {"-(-9223372036854775807 - 1)", "9 at 0"}, {"(-9223372036854775807 - 1) / -1", "9 at 27"}, {"(-9223372036854775807 - 1) % -1", "0 0 0 0"}, {"(-9223372036854775807 - 1) * -1", "9 at 27"}, {"9223372036854775807 * n", "9 at 20"}, {"n * 9223372036854775807", "9 at 2"}, {"9223372036854775807 * (n / 7)", "9223372036854775807 -9223372036854775807 9223372036854775807 null"}, {"3037000500 * 3037000500", "9 at 11"},
	} {
		if got := mapped(t, s, x.expression); got != x.want {
			t.Errorf("%q is %s, want %s", x.expression, got, x.want)
		}
	}
}

func TestP11WhereKeepsTheRowsForWhichItIsTrue(t *testing.T) {
	for _, o := range allOptions() {
		s := New(o)
		play(t, s, done("admin", "create t(a int,b str)"), tells("admin", "from t | where a = 1", "a:int,b:str\n"),
			done("admin", "load t (1,'x')(2,null)(null,'y')(1,'z')(3,'x')(-4,'')(1,null)"),
			tells("admin", "from t | where true", "a:int,b:str\n1,'x'\n2,null\nnull,'y'\n1,'z'\n3,'x'\n-4,''\n1,null\n"), tells("admin", "from t | where false", "a:int,b:str\n"),
			tells("admin", "from t | where a = 1", "a:int,b:str\n1,'x'\n1,'z'\n1,null\n"), tells("admin", "from t | where not a = 1", "a:int,b:str\n2,null\n3,'x'\n-4,''\n"), tells("admin", "from t | where a is null", "a:int,b:str\nnull,'y'\n"),
			tells("admin", "from t | where a > 0 | where b > 'x'", "a:int,b:str\n1,'z'\n"), tells("admin", "from t | where b > 'x' | where a > 0 | where a = 2", "a:int,b:str\n"), tells("admin", "from t | where a < 3 | where a is not null | where b is not null | where b <> 'x'", "a:int,b:str\n1,'z'\n-4,''\n"),
			done("admin", "grant ann on t (b) where a = 1"), tells("ann", "from t | where b is null", "b:str\nnull\n"), tells("ann", "from t | where b >= 'x'", "b:str\n'x'\n'z'\n"), refused("ann", "from t | where a = 1", ErrName, 15),
		)
	}
}

func TestP11MapMakesRowsOfTheNewColumns(t *testing.T) {
	for _, o := range allOptions() {
		s := New(o)
		play(t, s, done("admin", "create t(a int,b str)"), tells("admin", "from t | map x = 1", "x:int\n"),
			done("admin", "load t (1,'x')(2,null)(null,'y')(4,'')"),
			tells("admin", "from t | map b = a", "b:int\n1\n2\nnull\n4\n"), tells("admin", "from t | map b = a, a = b", "b:int,a:str\n1,'x'\n2,null\nnull,'y'\n4,''\n"),
			tells("admin", "from t | map x = a * 2, y = b = 'x', z = b, w = a", "x:int,y:bool,z:str,w:int\n2,true,'x',1\n4,null,null,2\nnull,false,'y',null\n8,false,'',4\n"),
			tells("admin", "from t | map a = a + 1 | map a = a + 1, b = a | where a > 3", "a:int,b:int\n4,3\n6,5\n"), tells("admin", "from t | map u = a, v = a, w = a, x = a, y = a, z = 0 | limit 1", "u:int,v:int,w:int,x:int,y:int,z:int\n1,1,1,1,1,0\n"),
			done("admin", "grant ann on t (b) where a > 1"), tells("ann", "from t | map a = b, c = 1", "a:str,c:int\nnull,1\n'',1\n"),
		)
	}
}

func TestP11LimitKeepsTheFirstRows(t *testing.T) {
	for _, o := range allOptions() {
		s := New(o)
		play(t, s, done("admin", "create t(a int)"), tells("admin", "from t | limit 3", "a:int\n"), done("admin", "load t (5)(4)(3)(null)(1)"),
			tells("admin", "from t | limit 0", "a:int\n"), tells("admin", "from t | limit 1", "a:int\n5\n"), tells("admin", "from t | limit 4", "a:int\n5\n4\n3\nnull\n"), tells("admin", "from t | limit 5", "a:int\n5\n4\n3\nnull\n1\n"), tells("admin", "from t | limit 6", "a:int\n5\n4\n3\nnull\n1\n"), tells("admin", "from t | limit 9223372036854775807", "a:int\n5\n4\n3\nnull\n1\n"),
			tells("admin", "from t | limit 3 | limit 2", "a:int\n5\n4\n"), tells("admin", "from t | limit 2 | limit 3", "a:int\n5\n4\n"), tells("admin", "from t | where a < 5 | limit 2", "a:int\n4\n3\n"), tells("admin", "from t | limit 2 | where a < 5", "a:int\n4\n"), tells("admin", "from t | limit 2 | limit 0 | limit 2", "a:int\n"), tells("admin", "from t | limit 3 | map a = a * a | limit 2", "a:int\n25\n16\n"),
			done("admin", "grant ann on t (a) where a < 5"), tells("ann", "from t | limit 2", "a:int\n4\n3\n"), tells("ann", "from t | limit 4", "a:int\n4\n3\n1\n"),
			// The table is as it was.
			tells("admin", "from t", "a:int\n5\n4\n3\nnull\n1\n"),
		)
	}
}

// numbered makes a store with a table of so many rows, of which n is the number
// from 1, a is 0 in the row of that number, and so is b.
func numbered(t *testing.T, o Options, rows, a, b int) *Store {
	t.Helper()
	s := New(o)
	play(t, s, done("admin", "create t(n int,a int,b int)"), done("admin", "grant ann on t (n,a,b) where n % 2 = 1"))
	for n := 1; n <= rows; n++ {
		play(t, s, done("admin", "load t ("+strconv.Itoa(n)+","+strconv.Itoa(n-a)+","+strconv.Itoa(n-b)+")"))
	}
	return s
}

// The first ErrMath is that of the first row, in it of the first column,
// wherever batches and segments end.
func TestP12TheFirstErrMathOfAStage(t *testing.T) {
	for _, o := range allOptions() {
		for _, x := range []struct{ a, b int }{{1, 1}, {1, 2}, {2, 1}, {3, 4}, {4, 3}, {5, 17}, {17, 5}, {18, 18}, {18, 99}, {99, 18}} {
			s := numbered(t, o, 18, x.a, x.b)
			wrong := "from t | map x = 1 ^/ a, y = 1 / b"
			condition := "from t | where 1 ^/ a < 2 and 1 / b < 2"
			if x.b < x.a {
				wrong = "from t | map x = 1 / a, y = 1 ^/ b"
				condition = "from t | where 1 / a < 2 and 1 ^/ b < 2"
			}
			play(t, s, fails(wrong, ErrMath), fails(condition, ErrMath), fails(condition+" | limit 0 | map x = n / 0", ErrMath))
		}
	}
}

func TestP12AStageEndsAheadOfTheNext(t *testing.T) {
	for _, o := range allOptions() {
		// Row 2 has a = 0, row 5 has b = 0.
		play(t, numbered(t, o, 7, 2, 5),
			fails("from t | map x = 1 ^/ a | limit 1", ErrMath), tells("admin", "from t | limit 1 | map x = 1 / a", "x:int\n-1\n"), fails("from t | where 1 ^/ a < 2 | limit 1", ErrMath), fails("from t | limit 2 | map x = 1 ^/ a", ErrMath),
			tells("admin", "from t | where a <> 0 | map x = 6 / a | limit 2", "x:int\n-6\n6\n"), tells("admin", "from t | where a <> 0 | where 6 / a > 2", "n:int,a:int,b:int\n3,1,-2\n4,2,-1\n"), fails("from t | where 6 ^/ a > 2 | where a <> 0", ErrMath),
			// The second condition errs at an earlier row, but the first one has all rows first.
			fails("from t | where 1 ^/ b < 2 | where 1 / a < 2", ErrMath), fails("from t | where 1 ^/ b < 2 | map x = 1 / a", ErrMath), fails("from t | map a = a, x = 1 ^/ b | where 1 / a < 2", ErrMath), fails("from t | where 1 ^/ b < 2 | where 1 / 0 = 1", ErrMath),
			fails("from t | where n < 5 | where 1 ^/ a < 2 | where 1 / b < 2", ErrMath), fails("from t | where a <> 0 | where 1 ^/ b < 2", ErrMath), fails("from t | where false | limit 3 | map x = ^d", ErrName), tells("admin", "from t | where false | map x = 1 / 0", "x:int\n"), tells("admin", "from t | limit 0 | where 1 / 0 = 1", "n:int,a:int,b:int\n"),
			// ann has the rows 1, 3, 5 and 7.
			tells("ann", "from t | map x = 6 / a", "x:int\n-6\n6\n2\n1\n"), tells("ann", "from t | where 6 / a > 1", "n:int,a:int,b:int\n3,1,-2\n5,3,0\n"), refused("ann", "from t | map x = 1 / b", ErrMath, 19), refused("ann", "from t | where 1 / b < 2", ErrMath, 17),
		)
	}
}

func TestP12TheRowsOfAllStagesAreCounted(t *testing.T) {
	for _, x := range []struct {
		marked string // at the last stage
		rows   []int  // of each stage
	}{
		{"^from t", []int{7}}, {"from t | ^where true", []int{7, 7}}, {"from t | ^where n > 3", []int{7, 4}}, {"from t | where n > 3 | ^where n > 5", []int{7, 4, 2}}, {"from t | where n > 3 | ^map x = n", []int{7, 4, 4}}, {"from t | map x = n | ^where x = 1", []int{7, 7, 1}}, {"from t | ^limit 3", []int{7, 3}}, {"from t | limit 3 | limit 2 | ^limit 1", []int{7, 3, 2, 1}}, {"  from t|where n>3|where n>4|  ^limit  2", []int{7, 4, 3, 2}}, {"from t | map x = n, y = n | map y = x | ^map z = y", []int{7, 7, 7, 7}}, {"from t | limit 2 | where n > 1 | ^where true", []int{7, 2, 1, 1}},
	} {
		all := 0
		for _, rows := range x.rows {
			all += rows
		}
		for _, o := range allOptions() {
			o.Budget = all - 1
			play(t, numbered(t, o, 7, 0, 0), fails(x.marked, ErrBudget))
			o.Budget = all
			if _, e, place := numbered(t, o, 7, 0, 0).Do("admin", strings.Replace(x.marked, "^", "", 1)); e != OK || place != 0 {
				t.Errorf("%q with a budget of %d: %d, %d", x.marked, all, e, place)
			}
		}
	}
}

// Of each stage first its ErrMath, then what it made against the budget, then
// the next stage.
func TestP12BudgetAndErrMath(t *testing.T) {
	for _, o := range allOptions() {
		for _, x := range []struct {
			budget int
			asked  step
		}{
			{6, fails("^from t | where 1 / 0 = 1", ErrBudget)}, {7, fails("from t | where 1 ^/ 0 = 1", ErrMath)}, {6, fails("^from t | map x = 1 / 0", ErrBudget)}, {7, fails("from t | map x = 1 ^/ 0", ErrMath)},
			{8, fails("from t | where 1 ^/ b < 2", ErrMath)}, {8, fails("from t | ^where n < 4 | where 1 / a < 2", ErrBudget)}, {9, fails("from t | ^where n < 4 | where 1 / a < 2", ErrBudget)}, {10, fails("from t | where n < 4 | where 1 ^/ a < 2", ErrMath)}, {6, fails("^from t | where n < 4 | where 1 / a < 2", ErrBudget)},
			{9, fails("from t | ^where n < 4 | map x = 1 / a", ErrBudget)}, {10, fails("from t | where n < 4 | map x = 1 ^/ a", ErrMath)}, {13, fails("from t | ^map x = a | where 1 / x < 2", ErrBudget)}, {14, fails("from t | map x = a | where 1 ^/ x < 2", ErrMath)}, {7, fails("from t | ^where n = 1 | limit 0", ErrBudget)}, {8, fails("from t | where n = 1 | ^limit 1", ErrBudget)}, {7, tells("admin", "from t | where false | limit 1", "n:int,a:int,b:int\n")},
			{0, fails("from ^u | limit 0", ErrName)}, {0, fails("from t | where ^d", ErrName)}, {0, fails("^from t | limit 0", ErrBudget)},
		} {
			o.Budget = x.budget
			// Row 2 has a = 0, row 5 has b = 0.
			play(t, numbered(t, o, 7, 2, 5), x.asked)
		}
	}
}

// To a user hidden rows are not there: they neither count nor err.
func TestP13HiddenRowsNeitherCountNorErr(t *testing.T) {
	for _, o := range allOptions() {
		o.Budget = 8
		// ann has the rows 1, 3, 5 and 7 of 8; in row 2 a = 0, in row 4 b = 0.
		s := numbered(t, o, 8, 2, 4)
		play(t, s,
			tells("ann", "from t | map x = 12 / a * (12 / b)", "x:int\n48\n-144\n48\n8\n"), tells("ann", "from t | where 12 / a > 0 and 12 / b <> 5", "n:int,a:int,b:int\n3,1,-1\n5,3,1\n7,5,3\n"),
			tells("ann", "from t | where true | limit 0", "n:int,a:int,b:int\n"), refused("ann", "from t | where true | limit 1", ErrBudget, 22),
			tells("admin", "from t | limit 0", "n:int,a:int,b:int\n"), fails("from t | ^limit 1", ErrBudget), fails("from t | map x = 12 ^/ a * (12 / b)", ErrMath),
		)
	}
}

func TestPushKeepsOnlyWhatTheFirstConditionsKeep(t *testing.T) {
	for _, x := range []struct {
		text  string
		early []int // the rows that each condition right behind `from` keeps
		rows  int   // that are copied
	}{
		{"from t", nil, 7}, {"from t | where n > 3", []int{4}, 4}, {"from t | where n > 3 | where n < 6 | where n = 4", []int{4, 2, 1}, 1}, {"from t | where n > 3 | limit 1 | where n < 6", []int{4}, 4}, {"from t | map n = n | where n > 3", nil, 7}, {"from t | where n > 3 | where 1 / (n - 5) = 1", []int{4, 0}, 0},
	} {
		o := roomy
		o.Push = true
		s := numbered(t, o, 7, 0, 0)
		seen, _ := s.viewOf("admin", "t")
		parsed, _ := parse(x.text)
		a := &asking{store: s, user: "admin"}
		early := parsed.(query).early(a, seen.columns())
		out, count := seen.read(a, early)
		if count != 7 || out.cells.rows() != x.rows || len(early.sieves) != len(x.early) {
			t.Errorf("%q: %d rows read and %d copied, by %d conditions", x.text, count, out.cells.rows(), len(early.sieves))
			continue
		}
		for i, kept := range x.early {
			if early.sieves[i].kept != kept {
				t.Errorf("%q: condition %d keeps %d rows, want %d", x.text, i, early.sieves[i].kept, kept)
			}
		}
	}
}
