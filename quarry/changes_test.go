package quarry

import (
	"strconv"
	"strings"
	"testing"
)

func TestP6ChangesAreForAdminAlone(t *testing.T) {
	s := New(roomy)
	play(t, s, done("admin", "create t(a int)"), done("admin", "load t (1)"), done("admin", "grant ann on t (a) where true"))
	for _, user := range []string{"", "ann", "Admin", "admin ", " admin", "admi", "admin\x00", "root"} {
		for _, text := range []string{"create u(a int)", "create t(a int)", "drop t", "drop u", "load t (2)", "load t ('a')", "grant ann on t (a) where false", "grant ann on u (a) where b", "revoke ann on t", "revoke bob on t"} {
			play(t, s, refused(user, text, ErrDenied, 0))
		}
	}
	play(t, s, tells("admin", "from t", "a:int\n1\n"), tells("ann", "from t", "a:int\n1\n"), fails("from ^u", ErrName))
}

func TestP6Create(t *testing.T) {
	play(t, New(roomy),
		done("admin", "create t(a int)"), tells("admin", "from t", "a:int\n"),
		done("admin", "create u(a int,b str,c bool,d int,abcdefgh str)"), tells("admin", "from u", "a:int,b:str,c:bool,d:int,abcdefgh:str\n"),
		fails("create ^t(a int)", ErrTwice), fails("create v(a int, b int, ^a str)", ErrTwice), fails("create v(a int, ^a int, a int, b int, b int)", ErrTwice),
		fails("create ^t(a int, a int)", ErrTwice), fails("create ^t(a int, b int, c int, d int, e int, f int)", ErrTwice), fails("create v(a int, b int, c int, d int, e int, ^a int)", ErrTwice),
		fails("create v(a int, b int, c int, d int, e int, f int)", ErrFull), fails("from ^v", ErrName),
		done("admin", "create v(v int)"), done("admin", "create w(t str)"),
		fails("create x(a int)", ErrFull), fails("  create x(a int)", ErrFull), fails("create ^w(a int)", ErrTwice), fails("create x(a int, ^a int)", ErrTwice), fails("from ^x", ErrName),
		done("admin", "drop u"), done("admin", "create x(a int)"), fails("create u(a int)", ErrFull), fails("from ^u", ErrName),
		tells("admin", "from t", "a:int\n"), tells("admin", "from v", "v:int\n"), tells("admin", "from w", "t:str\n"), tells("admin", "from x", "a:int\n"),
	)
}

func TestP6Drop(t *testing.T) {
	play(t, New(roomy),
		fails("drop ^t", ErrName),
		done("admin", "create t(a int)"), done("admin", "create u(a int)"), done("admin", "load t (1)(2)"), done("admin", "load u (3)"),
		done("admin", "grant ann on t (a) where true"), done("admin", "grant bob on t (a) where true"), done("admin", "grant ann on u (a) where true"), done("admin", "grant u on u (a) where true"),
		fails("  drop ^v", ErrName),
		done("admin", "drop t"), fails("drop ^t", ErrName), fails("from ^t", ErrName), refused("ann", "from t", ErrName, 5), fails("load ^t (1)", ErrName), fails("revoke ^ann on t", ErrName), fails("grant ann on ^t (a) where true", ErrName),
		tells("admin", "from u", "a:int\n3\n"), tells("ann", "from u", "a:int\n3\n"), tells("u", "from u", "a:int\n3\n"),
		done("admin", "create t(b str)"), tells("admin", "from t", "b:str\n"), refused("ann", "from t", ErrName, 5), refused("bob", "from t", ErrName, 5),
		done("admin", "load t ('x')"), tells("admin", "from t", "b:str\n'x'\n"),
	)
}

func TestP6DropMakesRoomForGrants(t *testing.T) {
	s := New(roomy)
	play(t, s, done("admin", "create t(a int)"), done("admin", "create u(a int)"))
	for _, user := range []string{"a", "b", "c", "d"} {
		play(t, s, done("admin", "grant "+user+" on t (a) where true"), done("admin", "grant "+user+" on u (a) where true"))
	}
	play(t, s, fails("grant e on u (a) where true", ErrFull), done("admin", "drop t"))
	for _, user := range []string{"e", "f", "g", "h"} {
		play(t, s, done("admin", "grant "+user+" on u (a) where true"))
	}
	play(t, s, fails("grant i on u (a) where true", ErrFull))
}

func TestP6Load(t *testing.T) {
	s := New(roomy)
	head := "n:int,s:str,b:bool\n"
	rows := "1,'x',true\n-9223372036854775807,'',false\nnull,null,null\n9223372036854775807,'twelve bytes',null\n"
	play(t, s,
		done("admin", "create t(n int,s str,b bool)"),
		done("admin", "load t (1,'x',true)(-9223372036854775807,'',false)"), done("admin", "load t (null,null,null)(9223372036854775807,'twelve bytes',null)"),
		tells("admin", "from t", head+rows),
	)
	for _, x := range []step{
		fails("load ^u (1,'x',true)", ErrName), fails("load ^u (1)", ErrName),
		fails("load t ^(1)", ErrType), fails("load t ^(1,'x')", ErrType), fails("load t ^(1,'x',true,1)", ErrType), fails("load t ^(null)", ErrType), fails("load t (1,'x',true) ^(1)", ErrType), fails("load t ^('x',1)", ErrType),
		fails("load t (^'x','x',true)", ErrType), fails("load t (^true,'x',true)", ErrType), fails("load t (1,^1,true)", ErrType), fails("load t (1,^false,true)", ErrType), fails("load t (1,'x',^1)", ErrType), fails("load t (1,'x',^'true')", ErrType), fails("load t (1,'x',^0)", ErrType), fails("load t (1,^-1,true)", ErrType), fails("load t (1,'x',^- 1)", ErrType),
		fails("load t (^'x',1,1)", ErrType), fails("load t (null,^1,1)", ErrType), fails("load t (1,null,^1)", ErrType),
		fails("load t (1,'x',true)(1,'x',true)(1,^1,true)", ErrType), fails("load t (1,^1,true) (1)", ErrType), fails("load t ^(1) (1,1,true)", ErrType), fails("load t (1,'x',true)^('x','x',true,1)(1)", ErrType),
	} {
		play(t, s, x, tells("admin", "from t", head+rows))
	}
}

func TestP6ATableHasAtMost64Rows(t *testing.T) {
	s := New(roomy)
	play(t, s, done("admin", "create t(a int)"),
		fails("load t "+strings.Repeat("(1)", 65), ErrFull), tells("admin", "from t", "a:int\n"),
		fails("load t "+strings.Repeat("(1)", 64)+"^(1,1)", ErrType), fails("load t "+strings.Repeat("(1)", 64)+"(^'a')", ErrType),
		done("admin", "load t "+strings.Repeat("(1)", 60)),
		fails("  load t (2)(2)(2)(2)(2)", ErrFull), tells("admin", "from t", "a:int\n"+strings.Repeat("1\n", 60)),
		done("admin", "load t (2)(2)(2)(2)"), fails("load t (3)", ErrFull), fails("load t (^'a')", ErrType),
		tells("admin", "from t", "a:int\n"+strings.Repeat("1\n", 60)+strings.Repeat("2\n", 4)),
		done("admin", "create u(a int)"), done("admin", "load u "+strings.Repeat("(3)", 64)),
	)
}

// Loaded in pieces of any size, into segments of any size, the rows stand one
// behind another.
func TestP6RowsAreBehindThoseThatWereThere(t *testing.T) {
	for _, o := range allOptions() {
		for piece := 1; piece <= 20; piece++ {
			s := New(o)
			play(t, s, done("admin", "create t(a int,b bool)"))
			want := "a:int,b:bool\n"
			for from := 0; from+piece <= maxRows; from += piece {
				text := "load t "
				for n := from; n < from+piece; n++ {
					text += "(" + strconv.Itoa(n) + ",true)"
					want += strconv.Itoa(n) + ",true\n"
				}
				play(t, s, done("admin", text))
			}
			play(t, s, tells("admin", "from t", want))
		}
	}
}

func TestP6Grant(t *testing.T) {
	s := New(roomy)
	play(t, s,
		done("admin", "create t(a int,b str,c bool)"), done("admin", "create u(x int)"), done("admin", "load t (1,'x',true)(2,'y',false)"),
		done("admin", "grant ann on t (c,a) where b = 'x'"),
	)
	for _, x := range []step{
		fails("grant ann on ^v (a) where true", ErrName), fails("grant ann on ^v (a,a) where x", ErrName), fails("grant ann on ^ann (a) where true", ErrName),
		fails("grant ann on t (^x) where true", ErrName), fails("grant ann on t (a,b,^x,a) where true", ErrName), fails("grant ann on t (a,^a,x) where true", ErrTwice), fails("grant ann on t (a,b,c,^b) where true", ErrTwice), fails("grant ann on t (^x,x) where true", ErrName), fails("grant ann on t (^t) where true", ErrName),
		fails("grant ann on t (a,^a) where x", ErrTwice), fails("grant ann on t (^x) where 1", ErrName), fails("grant ann on u (^a) where a = 1", ErrName),
		fails("grant ann on t (a) where ^x", ErrName), fails("grant ann on t (a) where ^x = y", ErrName), fails("grant ann on t (a) where a = 1 and ^x", ErrName), fails("grant ann on u (x) where ^a = 1", ErrName),
		fails("grant ann on t (a) where ^a", ErrType), fails("grant ann on t (a) where ^b", ErrType), fails("grant ann on t (a) where ^1", ErrType), fails("grant ann on t (a) where ^'true'", ErrType), fails("grant ann on t (a) where ^a + 1", ErrType), fails("grant ann on t (a) where ^((a))", ErrType), fails("grant ann on t (a) where ^-a", ErrType), fails("grant ann on t (a) where ^(a) + a", ErrType),
	} {
		play(t, s, x, tells("ann", "from t", "a:int,c:bool\n1,true\n"), refused("ann", "from u", ErrName, 5))
	}
	play(t, s,
		done("admin", "grant ann on t (b) where a = 2"), tells("ann", "from t", "b:str\n'y'\n"),
		done("admin", "grant ann on u (x) where true"), tells("ann", "from t", "b:str\n'y'\n"), tells("ann", "from u", "x:int\n"),
		done("admin", "grant bob on t (a) where c"), tells("bob", "from t", "a:int\n1\n"), tells("ann", "from t", "b:str\n'y'\n"), refused("bob", "from u", ErrName, 5),
	)
}

func TestP6ThereAreAtMost8Grants(t *testing.T) {
	s := New(roomy)
	play(t, s, done("admin", "create t(a int)"), done("admin", "create u(a int)"))
	for _, user := range []string{"a", "b", "c", "admin"} {
		play(t, s, done("admin", "grant "+user+" on t (a) where true"), done("admin", "grant "+user+" on u (a) where true"))
	}
	play(t, s,
		fails("  grant d on t (a) where true", ErrFull), fails("grant d on u (a) where true", ErrFull), refused("d", "from t", ErrName, 5),
		fails("grant d on ^v (a) where true", ErrName), fails("grant d on t (^b) where true", ErrName), fails("grant d on t (a,^a) where true", ErrTwice), fails("grant d on t (a) where ^b", ErrName), fails("grant d on t (a) where a ^and a", ErrType), fails("grant d on t (a) where ^a", ErrType),
		done("admin", "grant a on t (a) where false"), done("admin", "grant admin on u (a) where false"),
		done("admin", "revoke b on u"), done("admin", "grant d on t (a) where true"), fails("grant b on u (a) where true", ErrFull), tells("d", "from t", "a:int\n"), refused("b", "from u", ErrName, 5), tells("b", "from t", "a:int\n"),
	)
}

func TestP6Revoke(t *testing.T) {
	play(t, New(roomy),
		fails("revoke ^ann on t", ErrName),
		done("admin", "create t(a int)"), done("admin", "create u(a int)"),
		fails("  revoke  ^ann  on  t", ErrName), fails("revoke ^admin on t", ErrName),
		done("admin", "grant ann on t (a) where true"), done("admin", "grant bob on t (a) where true"), done("admin", "grant ann on u (a) where true"),
		fails("revoke ^bob on u", ErrName), fails("revoke ^t on ann", ErrName), fails("revoke ^ann on v", ErrName),
		done("admin", "revoke ann on t"), refused("ann", "from t", ErrName, 5), tells("ann", "from u", "a:int\n"), tells("bob", "from t", "a:int\n"), fails("revoke ^ann on t", ErrName),
		done("admin", "grant ann on t (a) where false"), done("admin", "grant admin on t (a) where false"), done("admin", "revoke admin on t"), fails("revoke ^admin on t", ErrName), tells("admin", "from t", "a:int\n"), tells("ann", "from t", "a:int\n"),
	)
}

func TestP6NothingHasChangedWithAnError(t *testing.T) {
	s := New(roomy)
	play(t, s, done("admin", "create t(a int,b str)"), done("admin", "load t (1,'x')(2,'y')"), done("admin", "grant ann on t (b) where a > 1"))
	for _, text := range []string{"drop", "drop t t", "drop t 'a", "load t (3,'z'", "load t (3,'z') (4", "load t (3,'z')(4,4)", "grant ann on t (a) where true and", "grant ann on t (a) where (((((((((true", "revoke ann on t t", "revoke ann on t T", "create u(a int", "create u(a int,a int)"} {
		if _, e, _ := s.Do("admin", text); e == OK {
			t.Errorf("%q is taken", text)
		}
		play(t, s, tells("admin", "from t", "a:int,b:str\n1,'x'\n2,'y'\n"), tells("ann", "from t", "b:str\n'y'\n"), fails("from ^u", ErrName))
	}
}

func TestP1TwoStoresShareNothing(t *testing.T) {
	one, other := New(roomy), New(roomy)
	play(t, one, done("admin", "create t(a int)"), done("admin", "load t (1)"), done("admin", "grant ann on t (a) where true"))
	play(t, other, fails("from ^t", ErrName), refused("ann", "from t", ErrName, 5), done("admin", "create t(b str)"), refused("ann", "from t", ErrName, 5), done("admin", "drop t"))
	play(t, one, tells("ann", "from t", "a:int\n1\n"))
}

func TestP1AStoreThatNewDidNotMake(t *testing.T) {
	play(t, &Store{},
		fails("from ^t", ErrName), fails("drop ^t", ErrName), fails("revoke ^ann on t", ErrName),
		done("admin", "create t(a int)"), tells("admin", "from t", "a:int\n"), done("admin", "load t (1)(2)"), done("admin", "grant ann on t (a) where false"),
		fails("^from t", ErrBudget), tells("ann", "from t", "a:int\n"),
	)
	play(t, nil, fails("from ^t", ErrName), done("admin", "create t(a int)"), fails("from ^t", ErrName), fails("drop ^t", ErrName), fails("^", ErrText))
}

func FuzzDo(f *testing.F) {
	for _, text := range []string{"create v(a int)", "drop t", "load t (1,'x',true)", "grant ann on t (a) where -a / 0 = 1 or b < 'x' and not c", "revoke ann on t", "from t", "from t | where a / 2 > 0 | map x = b, y = -a % 3 | limit 2", "from t | group a : n = count() | order n down, a | limit 3", "from t | group b, c : n = count(a), s = sum(a), x = min(b), y = max(c)", "from t | join u on a = d | map a = a % d, c = (e) is not null", "from t | join u on b = e | order e down"} {
		f.Add("admin", text)
		f.Add("ann", text)
	}
	f.Fuzz(func(t *testing.T, user, text string) {
		s := New(roomy)
		for _, first := range []string{"create t(a int,b str,c bool)", "load t (0,'x',true)(1,null,false)(null,'y',null)(-9223372036854775807,'',true)", "grant ann on t (b) where a = 1", "create u(d int,e str)", "load u (1,'x')(null,'y')(0,'x')", "grant ann on u (e) where d is not null"} {
			s.Do("admin", first)
		}
		before, _, _ := s.Do("admin", "from t")
		answer, e, place := s.Do(user, text)
		if e != OK && answer != "" || e == OK && place != 0 || place < 0 || place > len(text) || e < OK || e > ErrBudget {
			t.Errorf("Do(%q, %q) = %q, %d, %d", user, text, answer, e, place)
		}
		after, _, _ := s.Do("admin", "from t")
		if (e != OK || user != admin) && before != after {
			t.Errorf("Do(%q, %q) = %d, and the table has changed", user, text, e)
		}
		if _, f, at := New(Options{}).Do("eve", text); e == ErrText && (f != e || at != place) {
			t.Errorf("Do(%q, %q) = %d, %d, and for eve of an empty store %d, %d", user, text, e, place, f, at)
		}
	})
}
