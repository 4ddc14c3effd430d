package quarry

import (
	"math/big"
	"math/rand"
	"strconv"
	"strings"
)

// told is what an expression is worth in the test's own reckoning: a number
// without bounds, a string, a truth, null, or nothing at all where it errs.
type told struct {
	n          *big.Int
	s          string
	null, errs bool
	place      int // of the operator that errs, in the expression's text
}

// maker writes expressions over these columns at random, and works them out on
// its own, one row at a time.
type maker struct {
	r       *rand.Rand
	columns []column
}

type tellers map[string]told

type made struct {
	text string
	of   func(row tellers) told
}

// at is what a part is worth that stands so far behind the beginning of the
// whole.
func (m made) at(behind int, row tellers) told {
	x := m.of(row)
	x.place += behind
	return x
}

func (m maker) pick(choices ...string) string { return choices[m.r.Intn(len(choices))] }

func numberTold(n int64) told { return told{n: big.NewInt(n)} }

func truthTold(holds bool) told {
	if holds {
		return numberTold(1)
	}
	return numberTold(0)
}

// valueOf is what a value is worth as it stands in `load`.
func valueOf(text string) told {
	n, err := strconv.ParseInt(text, 10, 64)
	switch {
	case text == "null":
		return told{null: true}
	case err == nil:
		return numberTold(n)
	case text[0] == '\'':
		return told{s: strings.Trim(text, "'")}
	}
	return truthTold(text == "true")
}

func (m maker) leaf(k Kind) made {
	var names []string
	for _, c := range m.columns {
		if c.kind == k {
			names = append(names, c.name)
		}
	}
	if len(names) > 0 && m.r.Intn(2) == 0 {
		name := m.pick(names...)
		return made{name, func(row tellers) told { return row[name] }}
	}
	text := map[Kind]string{Int: m.pick("0", "1", "2", "3", "9223372036854775807", "4611686018427387904"), Str: m.pick("''", "'a'", "'ab'"), Bool: m.pick("true", "false")}[k]
	value := valueOf(text)
	return made{text, func(tellers) told { return value }}
}

// make answers an expression of that kind, always in brackets but for a leaf.
func (m maker) make(k Kind, depth int) made {
	if depth == 0 || k == Str || m.r.Intn(6) == 0 {
		return m.leaf(k)
	}
	if k == Int {
		return m.makeNumber(depth)
	}
	switch m.r.Intn(6) {
	case 0:
		part := m.make(Bool, depth-1)
		return made{"(not " + part.text + ")", func(row tellers) told {
			x := part.at(5, row)
			if x.errs || x.null {
				return x
			}
			return truthTold(x.n.Sign() == 0)
		}}
	case 1:
		part := m.make(Kind(m.r.Intn(3)), depth-1)
		sense := m.pick("null", "not null")
		return made{"(" + part.text + " is " + sense + ")", func(row tellers) told {
			x := part.at(1, row)
			if x.errs {
				return x
			}
			return truthTold(x.null == (sense == "null"))
		}}
	case 2, 3:
		return m.makeLogic(depth)
	}
	return m.makeTest(depth)
}

func (m maker) makeLogic(depth int) made {
	left, right, o := m.make(Bool, depth-1), m.make(Bool, depth-1), m.pick("and", "or")
	settling := truthTold(o == "or").n
	begin := "(" + left.text + " " + o + " "
	return made{begin + right.text + ")", func(row tellers) told {
		l := left.at(1, row)
		if l.errs || !l.null && l.n.Cmp(settling) == 0 {
			return l
		}
		r := right.at(len(begin), row)
		if r.errs || !r.null && r.n.Cmp(settling) == 0 {
			return r
		}
		if l.null || r.null {
			return told{null: true}
		}
		return truthTold(o == "and")
	}}
}

func (m maker) makeTest(depth int) made {
	k := Kind(m.r.Intn(3))
	left, right, o := m.make(k, depth-1), m.make(k, depth-1), m.pick("=", "<>", "<", "<=", ">", ">=")
	begin := "(" + left.text + o
	return made{begin + right.text + ")", func(row tellers) told {
		l, r := left.at(1, row), right.at(len(begin), row)
		switch {
		case l.errs:
			return l
		case r.errs:
			return r
		case l.null || r.null:
			return told{null: true}
		}
		order := strings.Compare(l.s, r.s)
		if k != Str {
			order = l.n.Cmp(r.n)
		}
		return truthTold(holds(o, order))
	}}
}

func holds(o string, order int) bool {
	return map[string]bool{"=": order == 0, "<>": order != 0, "<": order < 0, "<=": order <= 0, ">": order > 0, ">=": order >= 0}[o]
}

func (m maker) makeNumber(depth int) made {
	left, o := m.make(Int, depth-1), m.pick("+", "-", "*", "/", "%", "turn")
	if o == "turn" {
		return made{"(-" + left.text + ")", func(row tellers) told {
			x := left.at(2, row)
			if x.errs || x.null {
				return x
			}
			return bounded(new(big.Int).Neg(x.n), 1)
		}}
	}
	right := m.make(Int, depth-1)
	begin := "(" + left.text + o
	return made{begin + right.text + ")", func(row tellers) told {
		l, r := left.at(1, row), right.at(len(begin), row)
		place := len(begin) - 1
		switch {
		case l.errs:
			return l
		case r.errs:
			return r
		case l.null || r.null:
			return told{null: true}
		case r.n.Sign() == 0 && (o == "/" || o == "%"):
			return told{errs: true, place: place}
		}
		out := new(big.Int)
		switch o {
		case "+":
			out.Add(l.n, r.n)
		case "-":
			out.Sub(l.n, r.n)
		case "*":
			out.Mul(l.n, r.n)
		case "/":
			out.Quo(l.n, r.n)
		case "%":
			out.Rem(l.n, r.n)
		}
		return bounded(out, place)
	}}
}

func bounded(n *big.Int, place int) told {
	if !n.IsInt64() {
		return told{errs: true, place: place}
	}
	return told{n: n}
}
