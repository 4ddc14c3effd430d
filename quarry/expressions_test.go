package quarry

import (
	"math/rand"
	"strconv"
	"strings"
	"testing"
)

// Expressions and what is wrong with them, wherever they stand.
func TestP8ErrorsOfAnExpression(t *testing.T) {
	s := New(roomy)
	play(t, s, done("admin", "create t(n int,s str,b bool)"))
	for _, x := range []struct {
		text  string
		errno Errno
	}{
		{"^x", ErrName}, {"not ^x", ErrName}, {"-^x = 1", ErrName}, {"^x is null", ErrName}, {"(^x)", ErrName}, {"n = ^x", ErrName}, {"^t", ErrName}, {"b and ^ann", ErrName},
		{"^x = y", ErrName}, {"n + ^x > y", ErrName}, {"n = 1 and b and ^x or y", ErrName},
		// The parts come ahead of their operator, and that ahead of what is right of it.
		{"n ^+ s = x", ErrType}, {"n + ^x = s", ErrName}, {"n ^= s and x", ErrType}, {"n = 1 and ^x = s", ErrName}, {"n and ^x or y", ErrName}, {"(n ^and b) or x", ErrType}, {"n ^* s + x = 1", ErrType}, {"n + s ^* n = 1", ErrType}, {"s + n * ^x = 1", ErrName}, {"b = (n ^- s)", ErrType}, {"n ^- s - n = s", ErrType}, {"n - n ^- s = s", ErrType},
		{"n ^+ s = 1", ErrType}, {"n ^- b = 1", ErrType}, {"s ^* n = 1", ErrType}, {"b ^/ n = 1", ErrType}, {"n ^% 'a' = 1", ErrType}, {"s ^+ s = s", ErrType}, {"b ^+ b = b", ErrType}, {"n ^+ true = 1", ErrType},
		{"^-s = 1", ErrType}, {"^-b", ErrType}, {"^-'a' = 1", ErrType}, {"-^-s = 1", ErrType}, {"n + ^-true = 1", ErrType}, {"^-(n = 1)", ErrType},
		{"n ^= s", ErrType}, {"s ^<> n", ErrType}, {"b ^< n", ErrType}, {"n ^<= b", ErrType}, {"s ^> b", ErrType}, {"b ^>= s", ErrType}, {"n ^= 'a'", ErrType}, {"1 ^= true", ErrType}, {"b ^= 1", ErrType}, {"(n = 1) ^= 1", ErrType},
		{"n ^and b", ErrType}, {"b ^and n", ErrType}, {"s ^and b", ErrType}, {"b ^and 'a'", ErrType}, {"n ^or b", ErrType}, {"b ^or 1", ErrType}, {"b and b ^and n", ErrType}, {"b or b and b ^and n", ErrType}, {"b ^or n or b", ErrType}, {"b ^or n", ErrType},
		{"^not n", ErrType}, {"^not s", ErrType}, {"^not 1", ErrType}, {"not ^not n", ErrType}, {"^not n is null", OK}, {"^not -n", ErrType}, {"b and ^not (n)", ErrType},
		{"^b", OK}, {"^true", OK}, {"^n = 1", OK}, {"^s = 'a'", OK}, {"^b = b", OK}, {"^b < true", OK}, {"^n is null", OK}, {"^s is not null", OK}, {"^b is null", OK}, {"^(n = 1) = b", OK}, {"^(n is null) is null", OK}, {"^-n + n * n / n % n - -1 <= n", OK}, {"n ^+ s is null", ErrType},
	} {
		for _, before := range []string{"grant ann on t (n) where ", "from t | where ", "from t | map x = ", "from t | limit 0 | map y = 1, x = "} {
			asked := fails(before+x.text, x.errno)
			if _, e, at := s.Do("admin", asked.text); e != x.errno || e != OK && at != asked.place || e == OK && at != 0 {
				t.Errorf("%q: %d at %d, want %d at %d", asked.text, e, at, x.errno, asked.place)
			}
		}
	}
}

func TestP8AConditionIsOfKindBool(t *testing.T) {
	s := New(roomy)
	play(t, s, done("admin", "create t(n int,s str,b bool)"))
	for _, text := range []string{"^n", "^s", "^1", "^'true'", "^(n)", "^n + 1", "^(n + 1) * 2", "^((s))", "^- n", "^-(n)", "^n % 2 - 1"} {
		play(t, s, fails("grant ann on t (n) where "+text, ErrType), fails("from t | where "+text, ErrType), fails("from t | where b|where  "+text+" | map n = x", ErrType))
	}
}

// shownBy tells which of the rows a user is shown whose grant has that
// condition, by the numbers that they bear.
func shownBy(t *testing.T, s *Store, condition string) string {
	t.Helper()
	play(t, s, done("admin", "grant ann on t (id) where "+condition))
	text, e, place := s.Do("ann", "from t")
	if e != OK {
		t.Errorf("%q: %d, %d", condition, e, place)
	}
	return strings.ReplaceAll(strings.TrimSuffix(strings.TrimPrefix(text, "id:int\n"), "\n"), "\n", " ")
}

func TestP10Values(t *testing.T) {
	s := New(roomy)
	play(t, s, done("admin", "create t(id int,n int,s str,b bool)"),
		done("admin", "load t (0,0,'',true)(1,7,'a',false)(2,-7,'ab',true)(3,null,'b',null)(4,2,null,false)"))
	for _, x := range []struct{ condition, want string }{
		{"true", "0 1 2 3 4"}, {"false", ""}, {"b", "0 2"}, {"not b", "1 4"}, {"not not b", "0 2"},
		{"n = 7", "1"}, {"n <> 7", "0 2 4"}, {"n < 2", "0 2"}, {"n <= 2", "0 2 4"}, {"n > 0", "1 4"}, {"n >= 0", "0 1 4"}, {"-n = 7", "2"}, {"--n = 7", "1"}, {"- - -7 = n", "2"},
		{"n + 1 = 8", "1"}, {"n - 1 = 1", "4"}, {"n * n = 49", "1 2"}, {"n / 2 = 3", "1"}, {"n / 2 = -3", "2"}, {"n % 4 = 3", "1"}, {"n % 4 = -3", "2"}, {"n % -4 = 3", "1"}, {"n % -4 = -3", "2"}, {"n / -2 = -3", "1"}, {"7 / n = 3", "4"}, {"7 % n = 1", "4"}, {"n % 7 = 0", "0 1 2"},
		{"2 + 3 * n = 23", "1"}, {"(2 + 3) * n = 35", "1"}, {"10 - n - 1 = 2", "1"}, {"10 - (n - 1) = 4", "1"}, {"100 / n / 2 = 7", "1"}, {"100 / (n / 2) = 33", "1"}, {"-n + 10 = 3", "1"}, {"-(n + 10) = -17", "1"}, {"10 - -n = 17", "1"}, {"20 % 8 * 2 = 8", "0 1 2 3 4"}, {"2 * 7 % 4 = 2", "0 1 2 3 4"},
		{"s = ''", "0"}, {"s < 'a'", "0"}, {"s < 'ab'", "0 1"}, {"s <= 'ab'", "0 1 2"}, {"s > 'a'", "2 3"}, {"s >= 'ab'", "2 3"}, {"s <> 'a'", "0 2 3"}, {"'Z' < 'a'", "0 1 2 3 4"}, {"'a' < 'a '", "0 1 2 3 4"}, {"'10' < '9'", "0 1 2 3 4"}, {"'~' < '}'", ""},
		{"b = true", "0 2"}, {"b < true", "1 4"}, {"b > false", "0 2"}, {"b >= false", "0 1 2 4"}, {"false < true", "0 1 2 3 4"}, {"(n > 0) = b", ""}, {"(n > 0) <> b", "0 1 2 4"}, {"(n < 1) = b", "0 1 2 4"},
		{"n is null", "3"}, {"n is not null", "0 1 2 4"}, {"s is null", "4"}, {"b is null", "3"}, {"n + 1 is null", "3"}, {"(n = 7) is null", "3"}, {"not n is null", "0 1 2 4"}, {"(not b) is null", "3"}, {"-n is null", "3"}, {"(n is null) is null", ""}, {"1 is null", ""}, {"(s < 'x') is null", "4"},
		{"n = n", "0 1 2 4"}, {"n <> n", ""}, {"not n = 7", "0 2 4"},
		// and, or with nulls
		{"b and true", "0 2"}, {"(b and true) is null", "3"}, {"(true and b) is null", "3"}, {"(b and false) is null", ""}, {"(false and b) is null", ""}, {"not (b and false)", "0 1 2 3 4"}, {"(b and b) is null", "3"}, {"(b and n = 7) is null", "3"},
		{"b or true", "0 1 2 3 4"}, {"true or b", "0 1 2 3 4"}, {"b or false", "0 2"}, {"(b or false) is null", "3"}, {"(false or b) is null", "3"}, {"(b or b) is null", "3"}, {"n = 7 or s = 'b'", "1 3"}, {"s = 'b' or n = 7", "1 3"}, {"n = 7 and s = 'a'", "1"}, {"not (n = 7 and s = 'b')", "0 1 2 4"},
		{"n = 0 or n = 7 and false", "0"}, {"(n = 0 or n = 7) and false", ""}, {"false and n = 7 or n = 0", "0"}, {"not b and n > 0 or s = ''", "0 1 4"}, {"not (b or n > 0)", ""}, {"true or false and false", "0 1 2 3 4"}, {"not true or true", "0 1 2 3 4"}, {"not n = 7 and b", "0 2"},
		// What errs is not shown, on whichever side it is, unless it is not worked out.
		{"1 / 0 = 1", ""}, {"1 % 0 = 1", ""}, {"7 / n > -100", "1 2 4"}, {"7 % n > -100", "1 2 4"}, {"not 7 / n = 1", "2 4"}, {"(7 / n) is null", "3"}, {"(7 / n) is not null", "1 2 4"},
		{"n <> 0 and 7 / n > 0", "1 4"}, {"n = 0 or 7 / n > 0", "0 1 4"}, {"7 / n > 0 or n = 0", "1 4"}, {"7 / n > 0 and n <> 0", "1 4"}, {"false and 1 / 0 = 1", ""}, {"not (false and 1 / 0 = 1)", "0 1 2 3 4"}, {"true or 1 / 0 = 1", "0 1 2 3 4"}, {"true and 1 / 0 = 1", ""}, {"not (true and 1 / 0 = 1)", ""}, {"false or 1 / 0 = 1", ""}, {"1 / 0 = 1 or true", ""}, {"not (1 / 0 = 1 and false)", ""}, {"b or 1 / 0 = 1", "0 2"}, {"not (b and 1 / 0 = 1)", "1 4"},
		// Beside a null the other part is worked out all the same.
		{"(n + 1 / 0) is null", ""}, {"(1 / 0 + n) is null", ""}, {"(n = 1 / 0) is null", ""}, {"(n + 1 / 1) is null", "3"}, {"(b and 1 / 0 = 1) is null", ""}, {"(b or 1 / 0 = 1) is null", ""}, {"(-(1 / 0)) is null", ""}, {"(1 / 0) is null", ""}, {"(1 / 0) is not null", ""},
		// The edges of 64 bits
		{"9223372036854775807 + 0 > 0", "0 1 2 3 4"}, {"9223372036854775807 + 1 < 1", ""}, {"9223372036854775807 + n > 0", "0 2"}, {"-9223372036854775807 - 1 < 0", "0 1 2 3 4"}, {"-9223372036854775807 - 2 < 0 or true", ""}, {"-9223372036854775807 - n < 0", "0 2"}, {"-(-9223372036854775807 - 1) = 0 or true", ""}, {"-(-9223372036854775807) = 9223372036854775807", "0 1 2 3 4"}, {"0 - (-9223372036854775807 - 1) = 0 or true", ""}, {"-1 - (-9223372036854775807 - 1) = 9223372036854775807", "0 1 2 3 4"},
		{"(-9223372036854775807 - 1) / -1 = 0 or true", ""}, {"(-9223372036854775807 - 1) % -1 = 0", "0 1 2 3 4"}, {"(-9223372036854775807 - 1) * -1 = 0 or true", ""}, {"-1 * (-9223372036854775807 - 1) = 0 or true", ""}, {"(-9223372036854775807 - 1) * 1 < 0", "0 1 2 3 4"}, {"(-9223372036854775807 - 1) / 1 < 0", "0 1 2 3 4"}, {"(-9223372036854775807 - 1) * 0 = 0", "0 1 2 3 4"}, {"0 * (-9223372036854775807 - 1) = 0", "0 1 2 3 4"},
		{"4611686018427387904 * 2 = 0 or true", ""}, {"4611686018427387904 * -2 = -9223372036854775807 - 1", "0 1 2 3 4"}, {"-2 * 4611686018427387904 = -9223372036854775807 - 1", "0 1 2 3 4"}, {"3037000500 * 3037000500 > 0 or true", ""}, {"3037000499 * 3037000499 = 9223372030926249001", "0 1 2 3 4"}, {"4294967296 * 4294967296 = 0 or true", ""},
	} {
		if got := shownBy(t, s, x.condition); got != x.want {
			t.Errorf("%q shows %q, want %q", x.condition, got, x.want)
		}
	}
}

func TestP10ConditionsAgainstAReckoningOfItsOwn(t *testing.T) {
	m := maker{rand.New(rand.NewSource(1)), []column{{"n", Int}, {"m", Int}, {"s", Str}, {"b", Bool}}}
	numbers := []string{"null", "0", "1", "-1", "2", "-3", "9223372036854775807", "-9223372036854775807"}
	options := allOptions()
	shown, hidden := 0, 0
	for range 3000 {
		s := New(options[m.r.Intn(len(options))])
		play(t, s, done("admin", "create t(id int,n int,m int,s str,b bool)"))
		condition := m.make(Bool, 1+m.r.Intn(4))
		if len(condition.text) > 260 {
			continue
		}
		var want []string
		for id := range 12 {
			row := []string{m.pick(numbers...), m.pick(numbers...), m.pick("null", "''", "'a'", "'b'"), m.pick("null", "true", "false")}
			play(t, s, done("admin", "load t ("+strconv.Itoa(id)+","+strings.Join(row, ",")+")"))
			x := condition.of(tellers{"n": valueOf(row[0]), "m": valueOf(row[1]), "s": valueOf(row[2]), "b": valueOf(row[3])})
			if !x.errs && !x.null && x.n.Sign() == 1 {
				want = append(want, strconv.Itoa(id))
				shown++
			} else {
				hidden++
			}
		}
		if got := shownBy(t, s, condition.text); got != strings.Join(want, " ") {
			t.Fatalf("%q shows %q, want %q", condition.text, got, strings.Join(want, " "))
		}
	}
	if shown < 5000 || hidden < 5000 {
		t.Errorf("%d rows shown and %d hidden: too few to tell", shown, hidden)
	}
}
