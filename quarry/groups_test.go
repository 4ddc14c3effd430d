package quarry

import "testing"

func TestP8ErrorsOfGroup(t *testing.T) {
	for _, rows := range []string{"", "load t (1,'x',true)(0,null,false)"} {
		for _, o := range []Options{roomy, {Prune: true, Push: true}, {}} {
			s := New(o)
			play(t, s, done("admin", "create t(n int,s str,b bool)"))
			s.Do("admin", rows)
			play(t, s,
				fails("from ^u | group x : n = count()", ErrName),
				fails("from t | group ^x : c = count()", ErrName), fails("from t | group n,^x,n : c = count()", ErrName), fails("from t | group ^t : c = count()", ErrName), fails("from t | group ^c : c = count()", ErrName), fails("from t | group n,^n : c = count()", ErrTwice), fails("from t | group n,s,^n,x : c = count()", ErrTwice), fails("from t | group n,^n,n : c = count(x)", ErrTwice), fails("from t | group ^x,x : c = count()", ErrName), fails("from t | group n,s,b,^s,b : c = count()", ErrTwice),
				fails("from t | group n : ^n = count()", ErrTwice), fails("from t | group n,s : c = count(), ^s = count()", ErrTwice), fails("from t | group : c = count(), ^c = count()", ErrTwice), fails("from t | group : c = count(), d = count(), ^c = sum(n)", ErrTwice), fails("from t | group n : ^n = count(x)", ErrTwice), fails("from t | group : c = count(), ^c = sum(s)", ErrTwice), fails("from t | group b : c = count(), ^c = sum(x)", ErrTwice),
				fails("from t | group : c = count(^x)", ErrName), fails("from t | group : c = sum(^x)", ErrName), fails("from t | group : c = min(^x)", ErrName), fails("from t | group : c = max(^x)", ErrName), fails("from t | group n : c = count(), d = min(^c)", ErrName), fails("from t | group : c = count(^t)", ErrName),
				fails("from t | group : c = ^sum(s)", ErrType), fails("from t | group : c = ^sum(b)", ErrType), fails("from t | group s : c = min(s), d = max(b), e =  ^sum  (  s  )", ErrType), fails("from t | group : c = ^sum(s), d = sum(x)", ErrType), fails("from t | group : c = sum(^x), d = sum(s)", ErrName), fails("from t | group : c = ^sum(s), c = count()", ErrType), fails("from t | group ^x : c = sum(s)", ErrName), fails("from t | map n = b | group : c = ^sum(n)", ErrType),
				// A stage behind has the keys and the made columns, and no others.
				fails("from t | group n : c = count() | where ^s = 'x'", ErrName), fails("from t | group : c = count() | where ^n = 1", ErrName), fails("from t | group n : c = max(s) | where c ^= 1", ErrType), fails("from t | group : n = max(b) | map x = n ^+ 1", ErrType), fails("from t | group n : c = count() | group c : ^c = max(n)", ErrTwice), fails("from t | group n : c = count() | order n, c, ^s", ErrName),
				fails("from t | where ^s | group x : c = count()", ErrType), fails("from t | group ^x : c = count() | where s", ErrName), fails("from t | map x = 1 / 0 | group : c = sum(^n)", ErrName),
			)
			play(t, s, done("admin", "grant ann on t (n) where true"), refused("ann", "from t | group s : c = count()", ErrName, 15), refused("ann", "from t | group n : s = count(s)", ErrName, 29), refused("ann", "from t | group : s = sum(b)", ErrName, 25))
		}
	}
}

func TestP9KindsOfGroup(t *testing.T) {
	play(t, New(roomy),
		done("admin", "create t(n int,s str,b bool)"),
		tells("admin", "from t | group b,n,s : c = count(), d = count(n), e = count(s), f = count(b)", "b:bool,n:int,s:str,c:int,d:int,e:int,f:int\n"),
		tells("admin", "from t | group : c = sum(n), d = min(n), e = max(n), f = min(s), g = max(s), h = min(b), i = max(b)", "c:int,d:int,e:int,f:str,g:str,h:bool,i:bool\n"),
		tells("admin", "from t | group s : n = min(b), b = max(n) | map x = not n, y = b + 1, z = s = 'a'", "x:bool,y:int,z:bool\n"),
	)
}

func TestP11GroupMakesARowOfThoseWithTheSameKeys(t *testing.T) {
	for _, o := range allOptions() {
		s := New(o)
		play(t, s,
			done("admin", "create t(a int,b str,c bool)"), tells("admin", "from t | group a : n = count()", "a:int,n:int\n"), tells("admin", "from t | group : n = count()", "n:int\n"), tells("admin", "from t | group : n = count(a), s = sum(a), l = min(b)", "n:int,s:int,l:str\n"),
			done("admin", "load t (2,'y',true)(1,'x',null)(null,'y',false)(2,'',null)(0,null,true)(null,null,false)(1,'x',false)(2,'y',true)"),
			tells("admin", "from t | group a : n = count()", "a:int,n:int\n2,3\n1,2\nnull,2\n0,1\n"), tells("admin", "from t | group b : n = count()", "b:str,n:int\n'y',3\n'x',2\n'',1\nnull,2\n"), tells("admin", "from t | group c : n = count()", "c:bool,n:int\ntrue,3\nnull,2\nfalse,3\n"),
			tells("admin", "from t | group a,b : n = count()", "a:int,b:str,n:int\n2,'y',2\n1,'x',2\nnull,'y',1\n2,'',1\n0,null,1\nnull,null,1\n"), tells("admin", "from t | group c,a : n = count()", "c:bool,a:int,n:int\ntrue,2,2\nnull,1,1\nfalse,null,2\nnull,2,1\ntrue,0,1\nfalse,1,1\n"), tells("admin", "from t | group b,c,a : n = count() | where n > 1", "b:str,c:bool,a:int,n:int\n'y',true,2,2\n"),
			tells("admin", "from t | group b : n = count(), a = count(a), c = count(c), d = count(b)", "b:str,n:int,a:int,c:int,d:int\n'y',3,2,3,3\n'x',2,2,1,2\n'',1,1,0,1\nnull,2,1,2,0\n"),
			tells("admin", "from t | group b : s = sum(a), l = min(a), h = max(a)", "b:str,s:int,l:int,h:int\n'y',4,2,2\n'x',2,1,1\n'',2,2,2\nnull,0,0,0\n"), tells("admin", "from t | group a : l = min(b), h = max(b), f = min(c), g = max(c)", "a:int,l:str,h:str,f:bool,g:bool\n2,'','y',true,true\n1,'x','x',false,false\nnull,'y','y',false,false\n0,null,null,true,true\n"),
			tells("admin", "from t | group : n = count(), a = count(a), s = sum(a), l = min(a), h = max(a), k = min(b), m = max(b), f = min(c), g = max(c)", "n:int,a:int,s:int,l:int,h:int,k:str,m:str,f:bool,g:bool\n8,6,8,0,2,'','y',false,true\n"),
			tells("admin", "from t | where a is null | group : n = count(), a = count(a), s = sum(a), l = min(a), h = max(a)", "n:int,a:int,s:int,l:int,h:int\n2,0,null,null,null\n"), tells("admin", "from t | where b is null | group : l = min(b), h = max(b), n = count(b)", "l:str,h:str,n:int\nnull,null,0\n"),
			tells("admin", "from t | where a > 5 | group : n = count()", "n:int\n"), tells("admin", "from t | limit 0 | group a : n = count()", "a:int,n:int\n"),
			tells("admin", "from t | group a : n = count() | group n : m = count(), s = sum(a)", "n:int,m:int,s:int\n3,1,2\n2,2,1\n1,1,0\n"), tells("admin", "from t | map b = b, x = a | group x : a = max(b), b = count()", "x:int,a:str,b:int\n2,'y',3\n1,'x',2\nnull,'y',2\n0,null,1\n"),
			done("admin", "grant ann on t (a,b) where c"), tells("ann", "from t | group a : n = count(), b = min(b)", "a:int,n:int,b:str\n2,2,'y'\n0,1,null\n"), tells("ann", "from t | group : s = sum(a)", "s:int\n4\n"), done("admin", "grant ann on t (a) where a > 5"), tells("ann", "from t | group : s = sum(a), n = count()", "s:int,n:int\n"),
		)
	}
}

// Strings whose bytes could be taken for two values, or for null, are keys of
// their own.
func TestP11KeysThatLookAlike(t *testing.T) {
	play(t, New(roomy),
		done("admin", "create t(a str,b str)"), done("admin", "load t ('a,b','c')('a','b,c')('','null')('null','')(null,'')('',null)('ab','c')('a','bc')"),
		tells("admin", "from t | group a,b : n = count()", "a:str,b:str,n:int\n'a,b','c',1\n'a','b,c',1\n'','null',1\n'null','',1\nnull,'',1\n'',null,1\n'ab','c',1\n'a','bc',1\n"),
		tells("admin", "from t | group a : n = count()", "a:str,n:int\n'a,b',1\n'a',2\n'',2\n'null',1\nnull,1\n'ab',1\n"),
	)
}

func TestP12TheFirstSumThatErrs(t *testing.T) {
	const most = "9223372036854775807"
	for _, o := range allOptions() {
		play(t, New(o),
			done("admin", "create t(g int,a int,b int)"),
			done("admin", "load t (1,"+most+",0)(2,1,"+most+")(2,"+most+",0)(1,-1,1)(null,null,-"+most+")(2,-1,2)(1,2,-"+most+")"),
			// In all rows a errs at row 2, b at row 4.
			fails("from t | group : s = ^sum(a)", ErrMath), fails("from t | group : x = ^sum(b)", ErrMath), fails("from t | group : x = sum(b), y = ^sum(a)", ErrMath), fails("from t | group : x = ^sum(a), y = sum(b)", ErrMath),
			// By groups a errs at row 3, b at row 6.
			fails("from t | group g : n = count(), s = ^sum(a)", ErrMath), fails("from t | group g : x = ^sum(b)", ErrMath), fails("from t | group g : x = sum(b), y = ^sum(a)", ErrMath), fails("from t | group g : x = ^sum(a), y = sum(b)", ErrMath), fails("from t | group g : x = ^sum(a), y = sum(a)", ErrMath), fails("from t | limit 2 | group : x = count(a), y = ^sum(a), z = sum(b)", ErrMath),
			// It errs on its way, though the end would be within 64 bits.
			fails("from t | where g = 2 | group : s = ^sum(a)", ErrMath), fails("from t | map x = a | limit 4 | group : s = ^sum(x)", ErrMath), tells("admin", "from t | order a | where g = 1 or a < 0 | limit 4 | group : s = sum(a)", "s:int\n"+most+"\n"),
			tells("admin", "from t | where g = 1 | limit 2 | group : s = sum(a), t = sum(b)", "s:int,t:int\n9223372036854775806,1\n"), tells("admin", "from t | where g is null | group : s = sum(b), t = sum(a)", "s:int,t:int\n-"+most+",null\n"),
			tells("admin", "from t | where g is null | map x = b - 1 | group : s = sum(x)", "s:int\n-9223372036854775808\n"), fails("from t | where b < 0 | order g | map x = b - g | group : s = sum(x) | map y = s ^- 2", ErrMath),
			// The other made columns never err.
			tells("admin", "from t | group : l = min(a), h = max(a), n = count(a)", "l:int,h:int,n:int\n-1,"+most+",6\n"),
		)
	}
}

func TestP12GroupAndBudget(t *testing.T) {
	for _, o := range allOptions() {
		for _, x := range []struct {
			budget int
			asked  step
		}{
			{7, tells("admin", "from t | group a : n = count()", "a:int,n:int\n1,2\n2,1\n9223372036854775807,1\n")}, {6, fails("from t | ^group a : n = count()", ErrBudget)}, {4, fails("from t | ^group a : n = count()", ErrBudget)}, {3, fails("^from t | group : s = sum(a)", ErrBudget)}, {4, fails("from t | group : s = ^sum(a)", ErrMath)}, {5, tells("admin", "from t | group : n = count()", "n:int\n4\n")}, {4, fails("from t | ^group : n = count()", ErrBudget)}, {4, tells("admin", "from t | limit 0 | group : n = count()", "n:int\n")},
			{10, tells("admin", "from t | group a : n = count() | order n, a | limit 0", "a:int,n:int\n")}, {9, fails("from t | group a : n = count() | ^order n, a | limit 0", ErrBudget)}, {7, fails("from t | ^order a | group : s = sum(a)", ErrBudget)}, {8, fails("from t | order a | group : s = ^sum(a)", ErrMath)},
		} {
			o.Budget = x.budget
			s := New(o)
			play(t, s, done("admin", "create t(a int)"), done("admin", "load t (1)(2)(9223372036854775807)(1)"), x.asked)
		}
	}
}
