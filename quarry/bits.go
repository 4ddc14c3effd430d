package quarry

import "math/bits"

const (
	byteWidth   = 8
	letterWidth = 7 // enough for the bytes of a string, which end at 126
)

// bitWriter lays numbers one behind another, the low bits first.
type bitWriter struct {
	laid []byte
	used int // bits
}

func (w *bitWriter) put(value uint64, width int) {
	for i := range width {
		if w.used%8 == 0 {
			w.laid = append(w.laid, 0)
		}
		w.laid[w.used/8] |= byte(value>>i&1) << (w.used % 8)
		w.used++
	}
}

func (w *bitWriter) putFlag(flag bool) {
	if flag {
		w.put(1, 1)
	} else {
		w.put(0, 1)
	}
}

func (w *bitWriter) putString(s string, width int) {
	for i := range len(s) {
		w.put(uint64(s[i]), width)
	}
}

func (w *bitWriter) putNumber(n int) {
	folded := fold(n)
	width := bits.Len64(folded)
	w.put(uint64(width)+1, byteWidth)
	w.put(folded, width)
}

// putCell lays a byte that is 0 for null, else 1 above the size of what
// follows: a string's bytes, a number's bits.
func (w *bitWriter) putCell(k Kind, c Cell) {
	switch {
	case c.Null:
		w.put(0, byteWidth)
	case k == Str:
		w.put(uint64(len(c.S))+1, byteWidth)
		w.putString(c.S, byteWidth)
	default:
		w.putNumber(c.N)
	}
}

// bitReader reads what a bitWriter laid. Beyond the end it reads zeros without
// end, so that whoever reads need not ask whether there is more.
type bitReader struct {
	text string
	used int // bits
}

func (r *bitReader) get(width int) uint64 {
	var value uint64
	for i := range width {
		if r.used/8 < len(r.text) {
			value |= uint64(r.text[r.used/8]>>(r.used%8)&1) << i
		}
		r.used++
	}
	return value
}

func (r *bitReader) getFlag() bool { return r.get(1) == 1 }

func (r *bitReader) getString(length int, width int) string {
	letters := make([]byte, length)
	for i := range letters {
		letters[i] = byte(r.get(width))
	}
	return string(letters)
}

func (r *bitReader) getCell(k Kind) Cell {
	size := int(r.get(byteWidth))
	switch {
	case size == 0:
		return Cell{Null: true}
	case k == Str:
		return Cell{S: r.getString(size-1, byteWidth)}
	}
	return Cell{N: unfold(r.get(size - 1))}
}

// fold brings numbers near 0 of either sign to small ones: 0, -1, 1, -2, 2 to
// 0, 1, 2, 3, 4.
func fold(n int) uint64 {
	if n < 0 {
		return ^uint64(n)<<1 | 1
	}
	return uint64(n) << 1
}

func unfold(folded uint64) int {
	if folded&1 == 1 {
		return int(^(folded >> 1))
	}
	return int(folded >> 1)
}
