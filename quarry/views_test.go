package quarry

import (
	"strings"
	"testing"
)

func TestP7ToAdminATableIsAll(t *testing.T) {
	all := "a:int,b:str\n1,'x'\nnull,null\n2,'y'\n"
	play(t, New(roomy),
		done("admin", "create t(a int,b str)"), done("admin", "load t (1,'x')(null,null)(2,'y')"), tells("admin", "from t", all),
		done("admin", "grant admin on t (b) where false"), tells("admin", "from t", all),
		done("admin", "grant admin on t (a) where a = 1"), tells("admin", "from t", all),
		done("admin", "revoke admin on t"), tells("admin", "from t", all),
	)
}

func TestP7ToOthersATableIsWhatWasGranted(t *testing.T) {
	for _, o := range allOptions() {
		play(t, New(o),
			done("admin", "create t(a int,b str,c bool)"),
			refused("ann", "from t", ErrName, 5), refused("ann", "from u", ErrName, 5), refused("ann", "  from  t ", ErrName, 8),
			done("admin", "load t (1,'x',true)(2,'y',false)(3,'x',null)(null,'x',true)(5,null,false)(6,'z',true)(7,'x',false)"),
			done("admin", "grant ann on t (a) where true"), tells("ann", "from t", "a:int\n1\n2\n3\nnull\n5\n6\n7\n"),
			done("admin", "grant ann on t (c,b,a) where true"), tells("ann", "from t", "a:int,b:str,c:bool\n1,'x',true\n2,'y',false\n3,'x',null\nnull,'x',true\n5,null,false\n6,'z',true\n7,'x',false\n"),
			done("admin", "grant ann on t (c,a) where b = 'x'"), tells("ann", "from t", "a:int,c:bool\n1,true\n3,null\nnull,true\n7,false\n"),
			done("admin", "grant ann on t (b) where c"), tells("ann", "from t", "b:str\n'x'\n'x'\n'z'\n"),
			done("admin", "grant bob on t (b) where not c"), tells("bob", "from t", "b:str\n'y'\nnull\n'x'\n"), tells("ann", "from t", "b:str\n'x'\n'x'\n'z'\n"),
			done("admin", "grant ann on t (b) where false"), tells("ann", "from t", "b:str\n"),
			refused("", "from t", ErrName, 5), refused("bo", "from t", ErrName, 5), refused("bobb", "from t", ErrName, 5), refused("Bob", "from t", ErrName, 5), refused("t", "from t", ErrName, 5),
			done("admin", "load t (8,'w',false)(9,'w',true)"), tells("bob", "from t", "b:str\n'y'\nnull\n'x'\n'w'\n"), tells("ann", "from t", "b:str\n"),
		)
	}
}

func TestP7RowsWhereTheConditionIsNullOrErrsAreNotThere(t *testing.T) {
	play(t, New(roomy),
		done("admin", "create t(a int,b int)"), done("admin", "load t (1,0)(2,1)(3,null)(null,2)(4,2)(9223372036854775807,3)"),
		done("admin", "grant ann on t (a) where 10 / b > 4"), tells("ann", "from t", "a:int\n2\nnull\n4\n"),
		done("admin", "grant ann on t (a) where 10 / b <= 4"), tells("ann", "from t", "a:int\n9223372036854775807\n"),
		done("admin", "grant ann on t (a) where not 10 / b > 4"), tells("ann", "from t", "a:int\n9223372036854775807\n"),
		done("admin", "grant ann on t (b) where a + 1 > 0"), tells("ann", "from t", "b:int\n0\n1\nnull\n2\n"),
		done("admin", "grant ann on t (b) where a = a"), tells("ann", "from t", "b:int\n0\n1\nnull\n2\n3\n"),
		done("admin", "grant ann on t (b) where 1 / 0 = 1"), tells("ann", "from t", "b:int\n"),
	)
}

// What a user is answered hangs on hidden rows and columns in nothing.
func TestP7HiddenRowsAndColumnsAreNotTold(t *testing.T) {
	full, lean := New(Options{Segment: 2, Budget: 2}), New(Options{Segment: 2, Budget: 2})
	play(t, full, done("admin", "create t(a int,b str,c int)"), done("admin", "load t (1,'x',0)(2,'y',0)(3,'x',1)(4,'y',0)(5,'y',0)"), done("admin", "grant ann on t (a) where b = 'x'"), fails("^from t", ErrBudget))
	play(t, lean, done("admin", "create t(a int)"), done("admin", "load t (1)(3)"), done("admin", "grant ann on t (a) where true"))
	for _, text := range []string{"from t", "from u", "drop t", "from t |", "load t (1,'x',0)"} {
		a, e, place := full.Do("ann", text)
		b, f, at := lean.Do("ann", text)
		if a != b || e != f || place != at {
			t.Errorf("%q: %q, %d, %d or %q, %d, %d", text, a, e, place, b, f, at)
		}
	}
}

func TestP12AnswersAreWrittenByColumnsAndRows(t *testing.T) {
	play(t, New(Options{Budget: 4096}),
		done("admin", "create t(n int,s str,b bool)"), tells("admin", "from t", "n:int,s:str,b:bool\n"),
		done("admin", "load t (0,'',false)(-1,' , ',true)(007,'null',null)(null,null,null)(-0,'a|b',true)(-9223372036854775807,'~',false)"),
		tells("admin", "from t", "n:int,s:str,b:bool\n0,'',false\n-1,' , ',true\n7,'null',null\nnull,null,null\n0,'a|b',true\n-9223372036854775807,'~',false\n"),
		done("admin", "create u(b bool)"), done("admin", "load u (true)(null)(false)"), tells("admin", "from u", "b:bool\ntrue\nnull\nfalse\n"),
	)
}

func TestP12TheRowsOfFromAreCounted(t *testing.T) {
	for budget := range 5 {
		s := New(Options{Budget: budget})
		play(t, s, done("admin", "create t(a int)"), done("admin", "grant ann on t (a) where a > 1"))
		for rows := range 5 {
			query := tells("admin", " from t", "a:int\n"+strings.Repeat("1\n", rows))
			if rows > budget {
				query = fails(" ^from t", ErrBudget)
			}
			play(t, s, query, tells("ann", "from t", "a:int\n"), fails(" from ^u", ErrName), done("admin", "load t (1)"))
		}
	}
}
