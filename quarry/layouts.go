package quarry

import (
	"math/bits"
	"slices"
)

// layout is one of the four packings. What read answers is of worth only if the
// text is one that write laid; but it ends at any text, with count cells.
type layout interface {
	write(out *bitWriter, k Kind, column []Cell)
	read(in *bitReader, k Kind, count int) []Cell
}

type (
	plainLayout struct{}
	runsLayout  struct{}
	dictLayout  struct{}
	bitsLayout  struct{}
)

func layoutOf(p Packing) layout {
	switch p {
	case Runs:
		return runsLayout{}
	case Dict:
		return dictLayout{}
	case Bits:
		return bitsLayout{}
	}
	return plainLayout{}
}

func (plainLayout) write(out *bitWriter, k Kind, column []Cell) {
	for _, c := range column {
		out.putCell(k, c)
	}
}

func (plainLayout) read(in *bitReader, k Kind, count int) []Cell {
	column := make([]Cell, count)
	for i := range column {
		column[i] = in.getCell(k)
	}
	return column
}

// A run is laid as its length less 1 and its cell: no text can then tell of a
// run of length 0, at which reading would not get on.
func (runsLayout) write(out *bitWriter, k Kind, column []Cell) {
	for len(column) > 0 {
		length := firstRun(column)
		out.put(uint64(length-1), byteWidth)
		out.putCell(k, column[0])
		column = column[length:]
	}
}

func firstRun(column []Cell) int {
	for i, c := range column {
		if c != column[0] {
			return i
		}
	}
	return len(column)
}

func (runsLayout) read(in *bitReader, k Kind, count int) []Cell {
	column := make([]Cell, 0, count)
	for len(column) < count {
		length := int(in.get(byteWidth)) + 1
		c := in.getCell(k)
		for range min(length, count-len(column)) {
			column = append(column, c)
		}
	}
	return column
}

// The different cells stand in the order in which they come first, so that one
// column has one dictionary; behind them each cell's place among them.
func (dictLayout) write(out *bitWriter, k Kind, column []Cell) {
	places := map[Cell]int{}
	var entries []Cell
	for _, c := range column {
		if _, known := places[c]; !known {
			places[c] = len(entries)
			entries = append(entries, c)
		}
	}
	out.put(uint64(len(entries)), byteWidth)
	for _, c := range entries {
		out.putCell(k, c)
	}
	width := placeWidth(len(entries))
	for _, c := range column {
		out.put(uint64(places[c]), width)
	}
}

func (dictLayout) read(in *bitReader, k Kind, count int) []Cell {
	entries := make([]Cell, in.get(byteWidth))
	for i := range entries {
		entries[i] = in.getCell(k)
	}
	width := placeWidth(len(entries))
	column := make([]Cell, count)
	for i := range column {
		if place := int(in.get(width)); place < len(entries) {
			column[i] = entries[place]
		}
	}
	return column
}

func placeWidth(entries int) int {
	return bits.Len(uint(max(entries, 1) - 1))
}

const (
	frameWidth  = 7 // enough for a width from 0 to 64
	lengthWidth = 4 // enough for the length of a string
)

// Numbers are laid as their distance from the least one, all in as many bits as
// the greatest distance takes; strings letter by letter. A column without nulls
// spends no bits on telling so of each cell.
func (bitsLayout) write(out *bitWriter, k Kind, column []Cell) {
	nulls := slices.ContainsFunc(column, isNull)
	out.putFlag(nulls)
	least, width := frameOf(column)
	if k != Str {
		out.putNumber(least)
		out.put(uint64(width), frameWidth)
	}
	for _, c := range column {
		if nulls {
			out.putFlag(c.Null)
		}
		switch {
		case c.Null:
		case k == Str:
			out.put(uint64(len(c.S)), lengthWidth)
			out.putString(c.S, letterWidth)
		default:
			out.put(uint64(c.N)-uint64(least), width)
		}
	}
}

func (bitsLayout) read(in *bitReader, k Kind, count int) []Cell {
	nulls := in.getFlag()
	var least, width int
	if k != Str {
		least = in.getCell(Int).N
		width = int(in.get(frameWidth))
	}
	column := make([]Cell, count)
	for i := range column {
		switch {
		case nulls && in.getFlag():
			column[i].Null = true
		case k == Str:
			column[i].S = in.getString(int(in.get(lengthWidth)), letterWidth)
		default:
			column[i].N = int(uint64(least) + in.get(width))
		}
	}
	return column
}

func isNull(c Cell) bool { return c.Null }

// frameOf answers the least number and how many bits the distance from it to
// the greatest one takes. That distance may be beyond the numbers of an int.
func frameOf(column []Cell) (least int, width int) {
	greatest, found := 0, false
	for _, c := range column {
		switch {
		case c.Null:
		case !found:
			least, greatest, found = c.N, c.N, true
		default:
			least, greatest = min(least, c.N), max(greatest, c.N)
		}
	}
	return least, bits.Len64(uint64(greatest) - uint64(least))
}
