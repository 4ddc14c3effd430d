package quarry

import (
	"strings"
	"testing"
)

func TestP8ErrorsOfJoin(t *testing.T) {
	for _, rows := range []string{"", "load t (1,'x',true)(0,null,false)"} {
		for _, o := range []Options{roomy, {Prune: true, Push: true}, {}} {
			s := New(o)
			play(t, s, done("admin", "create t(n int,s str,b bool)"), done("admin", "create u(k int,c str,d bool)"), done("admin", "create v(k int,n int,w str)"))
			s.Do("admin", rows)
			play(t, s,
				fails("from t | join ^w on n = k", ErrName), fails("from t | join ^n on n = n", ErrName), fails("from t | join ^admin on s = b", ErrName), fails("from ^w | join x on n = k", ErrName),
				fails("from t | join ^t on n = n", ErrTwice), fails("from t | join ^v on s = w", ErrTwice), fails("from t | join ^v on x = y", ErrTwice), fails("from t | join ^v on s = k", ErrTwice), fails("from t | join u on n = k | join ^u on n = k", ErrTwice), fails("from t | join u on n = k | join ^v on x = y", ErrTwice), fails("from t | map x = n, w = 1 | join ^v on x = k", ErrTwice),
				fails("from t | join u on ^x = k", ErrName), fails("from t | join u on ^k = k", ErrName), fails("from t | join u on ^t = k", ErrName), fails("from t | join u on ^x = y", ErrName), fails("from t | join u on ^x = c", ErrName), fails("from t | map x = n | join u on ^n = k", ErrName),
				fails("from t | join u on n = ^n", ErrName), fails("from t | join u on n = ^x", ErrName), fails("from t | join u on s = ^u", ErrName), fails("from t | map x = n | join t on x = ^x", ErrName),
				fails("from t | join u on n ^= c", ErrType), fails("from t | join u on n ^= d", ErrType), fails("from t | join u on s ^= k", ErrType), fails("from t | join u on s^=d", ErrType), fails("from t | join u on b  ^=  k", ErrType), fails("from t | join u on b ^= c", ErrType), fails("from t | map n = s | join u on n ^= k", ErrType),
				// Stage by stage from the left, and all of them ahead of the first row.
				fails("from t | where ^x | join w on n = k", ErrName), fails("from t | join ^w on n = k | where x", ErrName), fails("from t | join u on n = k | where ^x", ErrName), fails("from t | join u on n ^= c | join w on n = k", ErrType), fails("from t | map x = 1 / 0 | join ^w on x = k", ErrName), fails("from t | join u on n = k | map x = n + k, ^x = d", ErrTwice), fails("from t | join u on n = k | map x = n ^+ c", ErrType),
			)
		}
	}
}

// What is hidden from a user is neither found nor in the way.
func TestP8JoinOfWhatAUserSees(t *testing.T) {
	s := New(roomy)
	play(t, s,
		done("admin", "create t(n int,s str)"), done("admin", "create u(k int,s str,d int)"), done("admin", "load t (1,'x')(2,'y')"), done("admin", "load u (1,'z',5)(2,'w',6)(2,'v',7)"),
		fails("from t | join ^u on n = k", ErrTwice), refused("ann", "from t | join u on n = k", ErrName, 5),
		done("admin", "grant ann on t (n,s) where true"), refused("ann", "from t | join u on n = k", ErrName, 14),
		done("admin", "grant ann on u (k,d) where d < 7"), tells("ann", "from t | join u on n = k", "n:int,s:str,k:int,d:int\n1,'x',1,5\n2,'y',2,6\n"), refused("ann", "from t | join u on s = s", ErrName, 23),
		done("admin", "grant ann on u (d,s) where true"), refused("ann", "from t | join u on n = k", ErrTwice, 14), refused("ann", "from t | map n = n | join u on n = k", ErrName, 35),
		done("admin", "grant ann on u (d) where k = 2"), tells("ann", "from u | map x = d - 4 | join t on x = n", "x:int,n:int,s:str\n2,2,'y'\n"),
		done("admin", "grant ann on t (s) where true"), refused("ann", "from t | join u on n = d", ErrName, 19),
		done("admin", "revoke ann on u"), refused("ann", "from t | join u on s = d", ErrName, 14),
	)
}

func TestP11JoinMakesARowOfEachPair(t *testing.T) {
	for _, o := range allOptions() {
		s := New(o)
		play(t, s,
			done("admin", "create t(a int,b str,c bool)"), done("admin", "create u(k int,s str,f bool)"),
			tells("admin", "from t | join u on a = k", "a:int,b:str,c:bool,k:int,s:str,f:bool\n"), done("admin", "load t (2,'x',true)(1,'',null)(0,null,false)(null,'y',false)(2,'z',true)"),
			tells("admin", "from t | join u on a = k", "a:int,b:str,c:bool,k:int,s:str,f:bool\n"), tells("admin", "from u | join t on k = a", "k:int,s:str,f:bool,a:int,b:str,c:bool\n"), done("admin", "load u (1,'y',null)(2,'',true)(null,null,null)(2,'x',false)(3,'x',true)(0,'y',null)"),
			tells("admin", "from t | join u on a = k", "a:int,b:str,c:bool,k:int,s:str,f:bool\n2,'x',true,2,'',true\n2,'x',true,2,'x',false\n1,'',null,1,'y',null\n0,null,false,0,'y',null\n2,'z',true,2,'',true\n2,'z',true,2,'x',false\n"),
			tells("admin", "from u | join t on k = a | map k = k, b = b", "k:int,b:str\n1,''\n2,'x'\n2,'z'\n2,'x'\n2,'z'\n0,null\n"),
			tells("admin", "from t | join u on b = s | map a = a, k = k", "a:int,k:int\n2,2\n2,3\n1,2\nnull,1\nnull,0\n"),
			tells("admin", "from t | where a = 2 | join u on c = f | map b = b, k = k", "b:str,k:int\n'x',2\n'x',3\n'z',2\n'z',3\n"), tells("admin", "from t | where c is null or not c | join u on c = f | map a = a, k = k", "a:int,k:int\n0,2\nnull,2\n"),
			tells("admin", "from t | map x = a, y = b | join t on x = a | map y = y, b = b", "y:str,b:str\n'x','x'\n'x','z'\n'',''\nnull,null\n'z','x'\n'z','z'\n"),
			tells("admin", "from t | map x = a + 1 | join u on x = k | limit 2", "x:int,k:int,s:str,f:bool\n3,3,'x',true\n2,2,'',true\n"), tells("admin", "from t | limit 1 | join u on a = k | where s = 'x' | map y = f", "y:bool\nfalse\n"),
			tells("admin", "from t | where a > 5 | join u on a = k", "a:int,b:str,c:bool,k:int,s:str,f:bool\n"), tells("admin", "from t | where a is null | join u on a = k", "a:int,b:str,c:bool,k:int,s:str,f:bool\n"),
		)
	}
}

func TestP12RowsOfAJoinAreCounted(t *testing.T) {
	for _, o := range allOptions() {
		for _, x := range []struct {
			budget int
			asked  step
		}{
			{9, tells("admin", "from t | join u on a = k | map b = b, s = s", "b:str,s:str\n'x','p'\n'x','q'\n'y','r'\n")}, {8, fails("from t | join u on a = k | ^map b = b, s = s", ErrBudget)}, {6, fails("from t | join u on a = k | ^map b = b, s = s", ErrBudget)}, {5, fails("from t | ^join u on a = k | map b = b, s = s", ErrBudget)}, {3, fails("from t | ^join u on a = k", ErrBudget)}, {2, fails("^from t | join u on a = k", ErrBudget)},
			// The rows of the table itself are not counted.
			{4, tells("admin", "from t | where a = 5 | join u on a = k", "a:int,b:str,k:int,s:str\n")}, {0, fails("from t | join ^v on a = k", ErrName)},
			{5, fails("from t | ^join u on a = k | map x = 1 / 0", ErrBudget)}, {6, fails("from t | join u on a = k | map x = 1 ^/ 0", ErrMath)}, {3, fails("from t | map x = 1 ^/ 0 | join u on x = k", ErrMath)},
			{3, refused("ann", "from t | join u on a = k", ErrBudget, 9)}, {4, tells("ann", "from t | join u on a = k", "a:int,b:str,k:int\n1,'x',1\n")},
		} {
			o.Budget = x.budget
			s := New(o)
			play(t, s, done("admin", "create t(a int,b str)"), done("admin", "load t (1,'x')(2,'y')(5,'z')"), done("admin", "create u(k int,s str)"), done("admin", "load u (1,'p')(1,'q')(2,'r')(3,'s')(null,'t')"))
			play(t, s, done("admin", "grant ann on t (a,b) where true"), done("admin", "grant ann on u (k) where s < 'q'"), x.asked)
		}
	}
}

// many makes a store with tables of 63 and of 64 rows that all have a 1.
func many(t *testing.T, o Options) *Store {
	t.Helper()
	s := New(o)
	ones := strings.Repeat("(1)", 63)
	play(t, s, done("admin", "create t(a int)"), done("admin", "load t "+ones), done("admin", "create u(b int)"), done("admin", "load u "+ones), done("admin", "load u (1)"), done("admin", "create v(c int)"), done("admin", "load v "+ones), done("admin", "load v (1)"))
	return s
}

// As many rows as a query may make at all, and one more.
func TestP12JoinsOfManyRows(t *testing.T) {
	for _, o := range []Options{roomy, {Segment: 16, Width: 16, Prune: true, Push: true, Budget: maxBudget}, {Budget: maxBudget + 1}} {
		s := many(t, o)
		text, e, _ := s.Do("admin", "from t | join u on a = b")
		if e != OK || text != "a:int,b:int\n"+strings.Repeat("1,1\n", 63*64) {
			t.Errorf("%+v: %d, %d bytes", o, e, len(text))
		}
		play(t, s,
			tells("admin", "from t | join u on a = b | limit 1", "a:int,b:int\n1,1\n"), fails("from t | join u on a = b | ^limit 2", ErrBudget),
			fails("from u | ^join v on b = c", ErrBudget), fails("from t | join u on a = b | ^join v on a = c", ErrBudget),
		)
	}
}

// A join that would make many times more rows than are left holds only a few
// more than these.
func TestP12AJoinStopsWhereNoRowsAreLeft(t *testing.T) {
	s := many(t, roomy)
	a := &asking{store: s, user: "admin", left: 1000}
	seen, _ := s.viewOf("admin", "t")
	in, _ := seen.read(a, early{})
	parsed, _ := parse("from t | join u on a = b")
	out, wrong := parsed.(query).stages[0].act.work(in, a)
	if rows := out.cells.rows(); wrong.is() || rows <= 1000 || rows > 1000+2*64 {
		t.Errorf("%d rows, %d", rows, wrong.errno)
	}
	text := "from t | limit 30 | join u on a = b | map x=1"
	for c := range 44 {
		text += "," + string([]byte{'d' + byte(c%20), 'a' + byte(c/20)}) + "=1"
	}
	play(t, s, fails(text+" | ^join v on x = c", ErrBudget))
}
