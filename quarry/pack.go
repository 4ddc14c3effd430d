package quarry

import "slices"

// Pack packs a column (P2, P4).
func Pack(p Packing, k Kind, column []Cell) (string, Errno) {
	if len(column) > maxRows {
		return "", ErrFull
	}
	if !isPacking(p) || !isKind(k) || !allOfKind(column, k) {
		return "", ErrType
	}
	var out bitWriter
	out.put(uint64(p), byteWidth)
	out.put(uint64(k), byteWidth)
	out.put(uint64(len(column)), byteWidth)
	layoutOf(p).write(&out, k, column)
	return string(out.laid), OK
}

// Unpack answers the column that a text stands for (P2, P3).
//
// The layouts read any text to some column, and right only what Pack wrote.
// Holding the text against what Pack answers for that column then refuses all
// the others, so that no layout needs checks of its own that might miss one.
func Unpack(text string) (Kind, []Cell, Errno) {
	in := bitReader{text: text}
	p := Packing(in.get(byteWidth))
	k := Kind(in.get(byteWidth))
	count := int(in.get(byteWidth))
	column := layoutOf(p).read(&in, k, count)
	if again, e := Pack(p, k, column); e != OK || again != text {
		return 0, nil, ErrText
	}
	return k, column, OK
}

func isPacking(p Packing) bool { return p >= Plain && p <= Bits }

func isKind(k Kind) bool { return k >= Int && k <= Bool }

func allOfKind(column []Cell, k Kind) bool {
	return !slices.ContainsFunc(column, func(c Cell) bool { return !isOfKind(c, k) })
}

func isOfKind(c Cell, k Kind) bool {
	if c.Null {
		return c.N == 0 && c.S == ""
	}
	switch k {
	case Int:
		return c.S == ""
	case Str:
		return c.N == 0 && isString(c.S)
	case Bool:
		return c.S == "" && (c.N == 0 || c.N == 1)
	}
	return false
}

func isString(s string) bool {
	if len(s) > maxString {
		return false
	}
	for i := range len(s) {
		if s[i] < ' ' || s[i] > '~' || s[i] == '\'' {
			return false
		}
	}
	return true
}
