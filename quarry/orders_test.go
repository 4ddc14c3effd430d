package quarry

import "testing"

func TestP8ErrorsOfOrder(t *testing.T) {
	for _, rows := range []string{"", "load t (1,'x',true)(0,null,false)"} {
		s := New(roomy)
		play(t, s, done("admin", "create t(n int,s str,b bool)"), done("admin", "grant ann on t (n) where true"))
		s.Do("admin", rows)
		play(t, s,
			fails("from ^u | order x", ErrName), fails("from t | order ^x", ErrName), fails("from t | order ^x down", ErrName), fails("from t | order n, s down, ^x, y", ErrName), fails("from t | order ^t", ErrName), fails("from t | map x = n | order ^n", ErrName), fails("from t | order n | where ^x", ErrName), fails("from t | map x = 1 / 0 | order x, ^n", ErrName),
			refused("ann", "from t | order s", ErrName, 15), refused("ann", "from t | order n, b down", ErrName, 18),
		)
	}
	// A column may stand there twice.
	play(t, New(roomy), done("admin", "create t(n int)"), done("admin", "load t (2)(1)(3)"), tells("admin", "from t | order n, n", "n:int\n1\n2\n3\n"), tells("admin", "from t | order n down, n", "n:int\n3\n2\n1\n"))
}

func TestP11OrderSortsAndLeavesEqualsInTheirOrder(t *testing.T) {
	for _, o := range allOptions() {
		s := New(o)
		play(t, s,
			done("admin", "create t(i int,n int,s str,b bool)"), tells("admin", "from t | order n down, s", "i:int,n:int,s:str,b:bool\n"),
			done("admin", "load t (1,5,'b',true)(2,null,'a',null)(3,-2,'',false)(4,5,'ab',true)(5,null,null,false)(6,0,'b',null)(7,-9223372036854775807,null,true)(8,9223372036854775807,'a',false)(9,5,'b',true)"),
		)
		for _, x := range []struct{ keys, rows string }{
			{"i", "123456789"}, {"i down", "987654321"},
			{"n", "257361498"}, {"n down", "814963725"}, {"s", "573284169"}, {"s down", "169428357"}, {"b", "263581479"}, {"b down", "147935826"},
			{"n, s", "527364198"}, {"n, s down", "257361948"}, {"n down, s", "841963752"}, {"n down, s down", "819463725"}, {"b, n", "265387149"}, {"b down, n down, s", "419783562"}, {"s, b, i down", "573284691"},
			{"n, i down", "527369418"}, {"n, n down, s", "527364198"}, {"b, i", "263581479"},
		} {
			text := "from t | order " + x.keys + " | map i = i"
			want := "i:int\n"
			for _, i := range x.rows {
				want += string(i) + "\n"
			}
			play(t, s, tells("admin", text, want))
		}
		play(t, s,
			tells("admin", "from t | order n down | limit 2 | map n = n", "n:int\n9223372036854775807\n5\n"), tells("admin", "from t | limit 3 | order n down | map n = n", "n:int\n5\n-2\nnull\n"), tells("admin", "from t | order b | order n | map i = i | limit 4", "i:int\n2\n5\n7\n3\n"),
			done("admin", "grant ann on t (s,i) where b"), tells("ann", "from t | order s down, i down", "i:int,s:str\n9,'b'\n1,'b'\n4,'ab'\n7,null\n"),
			// The table is as it was.
			tells("admin", "from t | map i = i", "i:int\n1\n2\n3\n4\n5\n6\n7\n8\n9\n"),
		)
	}
}

func TestP12RowsOfOrderAreCounted(t *testing.T) {
	for _, o := range allOptions() {
		o.Budget = 5
		play(t, numbered(t, o, 3, 0, 0), fails("from t | ^order n", ErrBudget), fails("from t | map x = 1 ^/ 0 | order x", ErrMath))
		o.Budget = 6
		play(t, numbered(t, o, 3, 0, 0), tells("admin", "from t | order n down", "n:int,a:int,b:int\n3,3,3\n2,2,2\n1,1,1\n"), fails("from t | order n | ^limit 1", ErrBudget), fails("from t | order n down | map x = 6 ^/ (n - 1)", ErrMath), tells("ann", "from t | order n down | limit 2", "n:int,a:int,b:int\n3,3,3\n1,1,1\n"))
	}
}

// Rows err in the order in which they were sorted.
func TestP12ErrMathBehindOrder(t *testing.T) {
	for _, o := range allOptions() {
		play(t, numbered(t, o, 7, 2, 5),
			fails("from t | map x = 1 ^/ a, y = 1 / b", ErrMath), fails("from t | order n down | map x = 1 / a, y = 1 ^/ b", ErrMath), fails("from t | order n | where 1 ^/ a < 2 and 1 / b < 2", ErrMath), fails("from t | order n down | where 1 / a < 2 and 1 ^/ b < 2", ErrMath),
		)
	}
}
