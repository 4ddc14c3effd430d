package quarry

import "slices"

type operator int

const (
	plus operator = iota
	minus
	times
	over
	rest
	equal
	unequal
	below
	atMost
	above
	atLeast
	and
	or
	negative
	not
)

var operators = [...]operator{
	plusSign: plus, minusSign: minus, timesSign: times, overSign: over, restSign: rest,
	equalSign: equal, unequalSign: unequal, belowSign: below, atMostSign: atMost, aboveSign: above, atLeastSign: atLeast,
	andWord: and, orWord: or,
}

// node is an expression, or a part of one.
type node interface {
	// kindOver answers of which kind it is over these columns, or the first
	// error in it (P8, P9).
	kindOver(columns []column) (Kind, fault)
}

type (
	literal struct {
		kind Kind
		cell Cell
	}
	name struct {
		text  string
		place int
	}
	nullTest struct {
		part    node
		negated bool
	}
	single struct {
		operator operator
		place    int
		part     node
	}
	double struct {
		operator    operator
		place       int
		left, right node
	}
)

func (n literal) kindOver([]column) (Kind, fault) { return n.kind, fault{} }

func (n name) kindOver(columns []column) (Kind, fault) {
	i := indexOf(columns, n.text)
	if i < 0 {
		return 0, fault{ErrName, n.place}
	}
	return columns[i].kind, fault{}
}

func (n nullTest) kindOver(columns []column) (Kind, fault) {
	_, wrong := n.part.kindOver(columns)
	return Bool, wrong
}

func (n single) kindOver(columns []column) (Kind, fault) {
	kind, wrong := n.part.kindOver(columns)
	if wrong.is() {
		return 0, wrong
	}
	taken := Int
	if n.operator == not {
		taken = Bool
	}
	if kind != taken {
		return 0, fault{ErrType, n.place}
	}
	return taken, fault{}
}

func (n double) kindOver(columns []column) (Kind, fault) {
	left, wrong := n.left.kindOver(columns)
	if wrong.is() {
		return 0, wrong
	}
	right, wrong := n.right.kindOver(columns)
	if wrong.is() {
		return 0, wrong
	}
	kind, taken := kindOfDouble(n.operator, left, right)
	if !taken {
		return 0, fault{ErrType, n.place}
	}
	return kind, fault{}
}

func kindOfDouble(o operator, left, right Kind) (kind Kind, taken bool) {
	switch o {
	case plus, minus, times, over, rest:
		return Int, left == Int && right == Int
	case and, or:
		return Bool, left == Bool && right == Bool
	}
	return Bool, left == right
}

func indexOf(columns []column, name string) int {
	return slices.IndexFunc(columns, func(c column) bool { return c.name == name })
}
