package quarry

import (
	"math/big"
	"math/rand"
	"strconv"
	"strings"
	"testing"
)

// P8 and P9 are held to as far as the condition of a grant goes.
func TestP6ErrorsOfTheConditionOfAGrant(t *testing.T) {
	s := New(roomy)
	play(t, s, done("admin", "create t(n int,s str,b bool)"))
	for _, x := range []struct {
		condition string
		errno     Errno
	}{
		{"^x", ErrName}, {"not ^x", ErrName}, {"-^x = 1", ErrName}, {"^x is null", ErrName}, {"(^x)", ErrName}, {"n = ^x", ErrName}, {"^t", ErrName}, {"b and ^ann", ErrName},
		{"^x = y", ErrName}, {"n + ^x > y", ErrName}, {"n = 1 and b and ^x or y", ErrName},
		// The parts come ahead of their operator, and that ahead of what is right of it.
		{"n ^+ s = x", ErrType}, {"n + ^x = s", ErrName}, {"n ^= s and x", ErrType}, {"n = 1 and ^x = s", ErrName}, {"n and ^x or y", ErrName}, {"(n ^and b) or x", ErrType}, {"n ^* s + x = 1", ErrType}, {"n + s ^* n = 1", ErrType}, {"s + n * ^x = 1", ErrName}, {"b = (n ^- s)", ErrType}, {"n ^- s - n = s", ErrType}, {"n - n ^- s = s", ErrType},
		{"n ^+ s = 1", ErrType}, {"n ^- b = 1", ErrType}, {"s ^* n = 1", ErrType}, {"b ^/ n = 1", ErrType}, {"n ^% 'a' = 1", ErrType}, {"s ^+ s = s", ErrType}, {"b ^+ b = b", ErrType}, {"n ^+ true = 1", ErrType},
		{"^-s = 1", ErrType}, {"^-b", ErrType}, {"^-'a' = 1", ErrType}, {"-^-s = 1", ErrType}, {"n + ^-true = 1", ErrType}, {"^-(n = 1)", ErrType},
		{"n ^= s", ErrType}, {"s ^<> n", ErrType}, {"b ^< n", ErrType}, {"n ^<= b", ErrType}, {"s ^> b", ErrType}, {"b ^>= s", ErrType}, {"n ^= 'a'", ErrType}, {"1 ^= true", ErrType}, {"b ^= 1", ErrType}, {"(n = 1) ^= 1", ErrType},
		{"n ^and b", ErrType}, {"b ^and n", ErrType}, {"s ^and b", ErrType}, {"b ^and 'a'", ErrType}, {"n ^or b", ErrType}, {"b ^or 1", ErrType}, {"b and b ^and n", ErrType}, {"b or b and b ^and n", ErrType}, {"b ^or n or b", ErrType}, {"b ^or n", ErrType},
		{"^not n", ErrType}, {"^not s", ErrType}, {"^not 1", ErrType}, {"not ^not n", ErrType}, {"^not n is null", OK}, {"^not -n", ErrType}, {"b and ^not (n)", ErrType},
		{"^n", ErrType}, {"^s", ErrType}, {"^(n)", ErrType}, {"^n + 1", ErrType}, {"^(n + 1) * 2", ErrType}, {"^((s))", ErrType}, {"^- n", ErrType},
		{"^b", OK}, {"^true", OK}, {"^n = 1", OK}, {"^s = 'a'", OK}, {"^b = b", OK}, {"^b < true", OK}, {"^n is null", OK}, {"^s is not null", OK}, {"^b is null", OK}, {"^(n = 1) = b", OK}, {"^(n is null) is null", OK}, {"^-n + n * n / n % n - -1 <= n", OK}, {"n ^+ s is null", ErrType},
	} {
		place := max(strings.IndexByte(x.condition, '^'), 0)
		text := "grant ann on t (n) where " + strings.Replace(x.condition, "^", "", 1)
		_, e, at := s.Do("admin", text)
		if e != x.errno || e != OK && at != place+25 || e == OK && at != 0 {
			t.Errorf("%q: %d at %d, want %d at %d", x.condition, e, at-25, x.errno, place)
		}
	}
}

// shownBy tells which of the rows a user is shown whose grant has that
// condition, by the numbers that they bear.
func shownBy(t *testing.T, s *Store, condition string) string {
	t.Helper()
	play(t, s, done("admin", "grant ann on t (id) where "+condition))
	text, e, place := s.Do("ann", "from t")
	if e != OK {
		t.Errorf("%q: %d, %d", condition, e, place)
	}
	return strings.ReplaceAll(strings.TrimSuffix(strings.TrimPrefix(text, "id:int\n"), "\n"), "\n", " ")
}

func TestP10Values(t *testing.T) {
	s := New(roomy)
	play(t, s, done("admin", "create t(id int,n int,s str,b bool)"),
		done("admin", "load t (0,0,'',true)(1,7,'a',false)(2,-7,'ab',true)(3,null,'b',null)(4,2,null,false)"))
	for _, x := range []struct{ condition, want string }{
		{"true", "0 1 2 3 4"}, {"false", ""}, {"b", "0 2"}, {"not b", "1 4"}, {"not not b", "0 2"},
		{"n = 7", "1"}, {"n <> 7", "0 2 4"}, {"n < 2", "0 2"}, {"n <= 2", "0 2 4"}, {"n > 0", "1 4"}, {"n >= 0", "0 1 4"}, {"-n = 7", "2"}, {"--n = 7", "1"}, {"- - -7 = n", "2"},
		{"n + 1 = 8", "1"}, {"n - 1 = 1", "4"}, {"n * n = 49", "1 2"}, {"n / 2 = 3", "1"}, {"n / 2 = -3", "2"}, {"n % 4 = 3", "1"}, {"n % 4 = -3", "2"}, {"n % -4 = 3", "1"}, {"n % -4 = -3", "2"}, {"n / -2 = -3", "1"}, {"7 / n = 3", "4"}, {"7 % n = 1", "4"}, {"n % 7 = 0", "0 1 2"},
		{"2 + 3 * n = 23", "1"}, {"(2 + 3) * n = 35", "1"}, {"10 - n - 1 = 2", "1"}, {"10 - (n - 1) = 4", "1"}, {"100 / n / 2 = 7", "1"}, {"100 / (n / 2) = 33", "1"}, {"-n + 10 = 3", "1"}, {"-(n + 10) = -17", "1"}, {"10 - -n = 17", "1"}, {"20 % 8 * 2 = 8", "0 1 2 3 4"}, {"2 * 7 % 4 = 2", "0 1 2 3 4"},
		{"s = ''", "0"}, {"s < 'a'", "0"}, {"s < 'ab'", "0 1"}, {"s <= 'ab'", "0 1 2"}, {"s > 'a'", "2 3"}, {"s >= 'ab'", "2 3"}, {"s <> 'a'", "0 2 3"}, {"'Z' < 'a'", "0 1 2 3 4"}, {"'a' < 'a '", "0 1 2 3 4"}, {"'10' < '9'", "0 1 2 3 4"}, {"'~' < '}'", ""},
		{"b = true", "0 2"}, {"b < true", "1 4"}, {"b > false", "0 2"}, {"b >= false", "0 1 2 4"}, {"false < true", "0 1 2 3 4"}, {"(n > 0) = b", ""}, {"(n > 0) <> b", "0 1 2 4"}, {"(n < 1) = b", "0 1 2 4"},
		{"n is null", "3"}, {"n is not null", "0 1 2 4"}, {"s is null", "4"}, {"b is null", "3"}, {"n + 1 is null", "3"}, {"(n = 7) is null", "3"}, {"not n is null", "0 1 2 4"}, {"(not b) is null", "3"}, {"-n is null", "3"}, {"(n is null) is null", ""}, {"1 is null", ""}, {"(s < 'x') is null", "4"},
		{"n = n", "0 1 2 4"}, {"n <> n", ""}, {"not n = 7", "0 2 4"},
		// and, or with nulls
		{"b and true", "0 2"}, {"(b and true) is null", "3"}, {"(true and b) is null", "3"}, {"(b and false) is null", ""}, {"(false and b) is null", ""}, {"not (b and false)", "0 1 2 3 4"}, {"(b and b) is null", "3"}, {"(b and n = 7) is null", "3"},
		{"b or true", "0 1 2 3 4"}, {"true or b", "0 1 2 3 4"}, {"b or false", "0 2"}, {"(b or false) is null", "3"}, {"(false or b) is null", "3"}, {"(b or b) is null", "3"}, {"n = 7 or s = 'b'", "1 3"}, {"s = 'b' or n = 7", "1 3"}, {"n = 7 and s = 'a'", "1"}, {"not (n = 7 and s = 'b')", "0 1 2 4"},
		{"n = 0 or n = 7 and false", "0"}, {"(n = 0 or n = 7) and false", ""}, {"false and n = 7 or n = 0", "0"}, {"not b and n > 0 or s = ''", "0 1 4"}, {"not (b or n > 0)", ""}, {"true or false and false", "0 1 2 3 4"}, {"not true or true", "0 1 2 3 4"}, {"not n = 7 and b", "0 2"},
		// What errs is not shown, on whichever side it is, unless it is not worked out.
		{"1 / 0 = 1", ""}, {"1 % 0 = 1", ""}, {"7 / n > -100", "1 2 4"}, {"7 % n > -100", "1 2 4"}, {"not 7 / n = 1", "2 4"}, {"(7 / n) is null", "3"}, {"(7 / n) is not null", "1 2 4"},
		{"n <> 0 and 7 / n > 0", "1 4"}, {"n = 0 or 7 / n > 0", "0 1 4"}, {"7 / n > 0 or n = 0", "1 4"}, {"7 / n > 0 and n <> 0", "1 4"}, {"false and 1 / 0 = 1", ""}, {"not (false and 1 / 0 = 1)", "0 1 2 3 4"}, {"true or 1 / 0 = 1", "0 1 2 3 4"}, {"true and 1 / 0 = 1", ""}, {"not (true and 1 / 0 = 1)", ""}, {"false or 1 / 0 = 1", ""}, {"1 / 0 = 1 or true", ""}, {"not (1 / 0 = 1 and false)", ""}, {"b or 1 / 0 = 1", "0 2"}, {"not (b and 1 / 0 = 1)", "1 4"},
		// Beside a null the other part is worked out all the same.
		{"(n + 1 / 0) is null", ""}, {"(1 / 0 + n) is null", ""}, {"(n = 1 / 0) is null", ""}, {"(n + 1 / 1) is null", "3"}, {"(b and 1 / 0 = 1) is null", ""}, {"(b or 1 / 0 = 1) is null", ""}, {"(-(1 / 0)) is null", ""}, {"(1 / 0) is null", ""}, {"(1 / 0) is not null", ""},
		// The edges of 64 bits
		{"9223372036854775807 + 0 > 0", "0 1 2 3 4"}, {"9223372036854775807 + 1 < 1", ""}, {"9223372036854775807 + n > 0", "0 2"}, {"-9223372036854775807 - 1 < 0", "0 1 2 3 4"}, {"-9223372036854775807 - 2 < 0 or true", ""}, {"-9223372036854775807 - n < 0", "0 2"}, {"-(-9223372036854775807 - 1) = 0 or true", ""}, {"-(-9223372036854775807) = 9223372036854775807", "0 1 2 3 4"}, {"0 - (-9223372036854775807 - 1) = 0 or true", ""}, {"-1 - (-9223372036854775807 - 1) = 9223372036854775807", "0 1 2 3 4"},
		{"(-9223372036854775807 - 1) / -1 = 0 or true", ""}, {"(-9223372036854775807 - 1) % -1 = 0", "0 1 2 3 4"}, {"(-9223372036854775807 - 1) * -1 = 0 or true", ""}, {"-1 * (-9223372036854775807 - 1) = 0 or true", ""}, {"(-9223372036854775807 - 1) * 1 < 0", "0 1 2 3 4"}, {"(-9223372036854775807 - 1) / 1 < 0", "0 1 2 3 4"}, {"(-9223372036854775807 - 1) * 0 = 0", "0 1 2 3 4"}, {"0 * (-9223372036854775807 - 1) = 0", "0 1 2 3 4"},
		{"4611686018427387904 * 2 = 0 or true", ""}, {"4611686018427387904 * -2 = -9223372036854775807 - 1", "0 1 2 3 4"}, {"-2 * 4611686018427387904 = -9223372036854775807 - 1", "0 1 2 3 4"}, {"3037000500 * 3037000500 > 0 or true", ""}, {"3037000499 * 3037000499 = 9223372030926249001", "0 1 2 3 4"}, {"4294967296 * 4294967296 = 0 or true", ""},
	} {
		if got := shownBy(t, s, x.condition); got != x.want {
			t.Errorf("%q shows %q, want %q", x.condition, got, x.want)
		}
	}
}

// told is what a condition is worth in the test's own reckoning: a number
// without bounds, a string, a truth, null, or nothing at all where it errs.
type told struct {
	n          *big.Int
	s          string
	null, errs bool
}

// maker writes conditions at random, and works them out on its own for one row.
type maker struct {
	r *rand.Rand
}

type made struct {
	text string
	of   func(row map[string]told) told
}

func (m maker) pick(choices ...string) string { return choices[m.r.Intn(len(choices))] }

func numberTold(n int64) told { return told{n: big.NewInt(n)} }

func truthTold(holds bool) told {
	if holds {
		return numberTold(1)
	}
	return numberTold(0)
}

func (m maker) leaf(k Kind) made {
	name := map[Kind]string{Int: m.pick("n", "m"), Str: "s", Bool: "b"}[k]
	if m.r.Intn(2) == 0 {
		return made{name, func(row map[string]told) told { return row[name] }}
	}
	text := map[Kind]string{Int: m.pick("0", "1", "2", "3", "9223372036854775807", "4611686018427387904"), Str: m.pick("''", "'a'", "'ab'"), Bool: m.pick("true", "false")}[k]
	value := told{s: strings.Trim(text, "'")}
	switch k {
	case Int:
		n, _ := strconv.ParseInt(text, 10, 64)
		value = numberTold(n)
	case Bool:
		value = truthTold(text == "true")
	}
	return made{text, func(map[string]told) told { return value }}
}

// make answers an expression of that kind, always in brackets but for a leaf.
func (m maker) make(k Kind, depth int) made {
	if depth == 0 || k == Str || m.r.Intn(6) == 0 {
		return m.leaf(k)
	}
	if k == Int {
		return m.makeNumber(depth)
	}
	switch m.r.Intn(6) {
	case 0:
		part := m.make(Bool, depth-1)
		return made{"(not " + part.text + ")", func(row map[string]told) told {
			x := part.of(row)
			if x.errs || x.null {
				return x
			}
			return truthTold(x.n.Sign() == 0)
		}}
	case 1:
		part := m.make(Kind(m.r.Intn(3)), depth-1)
		sense := m.pick("null", "not null")
		return made{"(" + part.text + " is " + sense + ")", func(row map[string]told) told {
			x := part.of(row)
			if x.errs {
				return x
			}
			return truthTold(x.null == (sense == "null"))
		}}
	case 2, 3:
		return m.makeLogic(depth)
	}
	return m.makeTest(depth)
}

func (m maker) makeLogic(depth int) made {
	left, right, o := m.make(Bool, depth-1), m.make(Bool, depth-1), m.pick("and", "or")
	settling := truthTold(o == "or").n
	return made{"(" + left.text + " " + o + " " + right.text + ")", func(row map[string]told) told {
		l := left.of(row)
		if l.errs || !l.null && l.n.Cmp(settling) == 0 {
			return l
		}
		r := right.of(row)
		if r.errs || !r.null && r.n.Cmp(settling) == 0 {
			return r
		}
		if l.null || r.null {
			return told{null: true}
		}
		return truthTold(o == "and")
	}}
}

func (m maker) makeTest(depth int) made {
	k := Kind(m.r.Intn(3))
	left, right, o := m.make(k, depth-1), m.make(k, depth-1), m.pick("=", "<>", "<", "<=", ">", ">=")
	return made{"(" + left.text + o + right.text + ")", func(row map[string]told) told {
		l, r := left.of(row), right.of(row)
		switch {
		case l.errs:
			return l
		case r.errs:
			return r
		case l.null || r.null:
			return told{null: true}
		}
		order := strings.Compare(l.s, r.s)
		if k != Str {
			order = l.n.Cmp(r.n)
		}
		return truthTold(map[string]bool{"=": order == 0, "<>": order != 0, "<": order < 0, "<=": order <= 0, ">": order > 0, ">=": order >= 0}[o])
	}}
}

func (m maker) makeNumber(depth int) made {
	left, o := m.make(Int, depth-1), m.pick("+", "-", "*", "/", "%", "turn")
	if o == "turn" {
		return made{"(-" + left.text + ")", func(row map[string]told) told {
			x := left.of(row)
			if x.errs || x.null {
				return x
			}
			return bounded(new(big.Int).Neg(x.n))
		}}
	}
	right := m.make(Int, depth-1)
	return made{"(" + left.text + o + right.text + ")", func(row map[string]told) told {
		l, r := left.of(row), right.of(row)
		switch {
		case l.errs || r.errs:
			return told{errs: true}
		case l.null || r.null:
			return told{null: true}
		case r.n.Sign() == 0 && (o == "/" || o == "%"):
			return told{errs: true}
		}
		out := new(big.Int)
		switch o {
		case "+":
			out.Add(l.n, r.n)
		case "-":
			out.Sub(l.n, r.n)
		case "*":
			out.Mul(l.n, r.n)
		case "/":
			out.Quo(l.n, r.n)
		case "%":
			out.Rem(l.n, r.n)
		}
		return bounded(out)
	}}
}

func bounded(n *big.Int) told {
	if !n.IsInt64() {
		return told{errs: true}
	}
	return told{n: n}
}

func TestP10ConditionsAgainstAReckoningOfItsOwn(t *testing.T) {
	m := maker{rand.New(rand.NewSource(1))}
	numbers := []string{"null", "0", "1", "-1", "2", "-3", "9223372036854775807", "-9223372036854775807"}
	options := allOptions()
	valueOf := func(text string) told {
		n, err := strconv.ParseInt(text, 10, 64)
		switch {
		case text == "null":
			return told{null: true}
		case err == nil:
			return numberTold(n)
		case text[0] == '\'':
			return told{s: strings.Trim(text, "'")}
		}
		return truthTold(text == "true")
	}
	shown, hidden := 0, 0
	for range 3000 {
		s := New(options[m.r.Intn(len(options))])
		play(t, s, done("admin", "create t(id int,n int,m int,s str,b bool)"))
		condition := m.make(Bool, 1+m.r.Intn(4))
		if len(condition.text) > 260 {
			continue
		}
		var want []string
		for id := range 12 {
			row := []string{m.pick(numbers...), m.pick(numbers...), m.pick("null", "''", "'a'", "'b'"), m.pick("null", "true", "false")}
			play(t, s, done("admin", "load t ("+strconv.Itoa(id)+","+strings.Join(row, ",")+")"))
			x := condition.of(map[string]told{"n": valueOf(row[0]), "m": valueOf(row[1]), "s": valueOf(row[2]), "b": valueOf(row[3])})
			if !x.errs && !x.null && x.n.Sign() == 1 {
				want = append(want, strconv.Itoa(id))
				shown++
			} else {
				hidden++
			}
		}
		if got := shownBy(t, s, condition.text); got != strings.Join(want, " ") {
			t.Fatalf("%q shows %q, want %q", condition.text, got, strings.Join(want, " "))
		}
	}
	if shown < 5000 || hidden < 5000 {
		t.Errorf("%d rows shown and %d hidden: too few to tell", shown, hidden)
	}
}
