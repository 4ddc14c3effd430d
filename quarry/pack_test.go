package quarry

import (
	"math"
	"slices"
	"strconv"
	"strings"
	"testing"
)

var (
	packings = []Packing{Plain, Runs, Dict, Bits}
	kinds    = []Kind{Int, Str, Bool}
)

func ints(numbers ...int) []Cell {
	var column []Cell
	for _, n := range numbers {
		column = append(column, Cell{N: n})
	}
	return column
}

func strs(texts ...string) []Cell {
	var column []Cell
	for _, s := range texts {
		column = append(column, Cell{S: s})
	}
	return column
}

func withNulls(column []Cell, nulls int) []Cell {
	return append(slices.Clone(column), slices.Repeat([]Cell{{Null: true}}, nulls)...)
}

// cellsOf answers cells of a kind, its edges and null among them.
func cellsOf(k Kind) []Cell {
	switch k {
	case Int:
		return withNulls(ints(0, 1, -1, 15, 16, 300, math.MaxInt, math.MaxInt-1, math.MinInt, math.MinInt+1), 1)
	case Str:
		return withNulls(strs("", " ", "~", "a", "aa", "&", "(", "twelve bytes", "~~~~~~~~~~~~", "            "), 1)
	}
	return withNulls(ints(0, 1), 1)
}

// columnsOf answers all short columns over the cells of a kind, and long ones
// of several shapes.
func columnsOf(k Kind) [][]Cell {
	pool := cellsOf(k)
	columns := [][]Cell{{}}
	for from, length := 0, 1; length <= 3; length++ {
		until := len(columns)
		for _, shorter := range columns[from:until] {
			for _, c := range pool {
				columns = append(columns, append(slices.Clone(shorter), c))
			}
		}
		from = until
	}
	seed := uint32(k) + 1
	for length := 4; length <= maxRows; length++ {
		for _, different := range []int{1, 2, 3, len(pool)} {
			column := make([]Cell, length)
			for i := range column {
				seed = seed*1664525 + 1013904223
				column[i] = pool[(i/different+int(seed>>16)%different)%len(pool)]
			}
			columns = append(columns, column)
		}
	}
	return columns
}

func mustPack(t *testing.T, p Packing, k Kind, column []Cell) string {
	t.Helper()
	text, e := Pack(p, k, column)
	if e != OK || text == "" {
		t.Fatalf("Pack(%d, %d, %v) = %q, %d", p, k, column, text, e)
	}
	return text
}

func mustRefuse(t *testing.T, text string) {
	t.Helper()
	if k, column, e := Unpack(text); k != 0 || len(column) != 0 || e != ErrText {
		t.Fatalf("Unpack(%.80q) = %d, %.80s, %d, want a refusal", text, k, listed(column), e)
	}
}

// isAnswerOfPack holds a text against all that Pack may answer for a column.
func isAnswerOfPack(text string, k Kind, column []Cell) bool {
	for _, p := range packings {
		if again, e := Pack(p, k, column); e == OK && again == text {
			return true
		}
	}
	return false
}

func mustBeRefusedOrStand(t *testing.T, text string) {
	t.Helper()
	k, column, e := Unpack(text)
	switch {
	case e == ErrText && k == 0 && len(column) == 0:
	case e == OK && isAnswerOfPack(text, k, column):
	default:
		t.Fatalf("Unpack(%.80q) = %d, %.80s, %d: no answer of Pack, and not refused", text, k, listed(column), e)
	}
}

func TestP1PackKeepsAndChangesNothing(t *testing.T) {
	for _, p := range packings {
		column := withNulls(ints(5, 5, -7), 2)
		was := slices.Clone(column)
		text := mustPack(t, p, Int, column)
		if !slices.Equal(column, was) {
			t.Errorf("packing %d changed its column to %v", p, column)
		}
		column[0].N = 99
		_, one, _ := Unpack(text)
		one[1].N = 98
		if _, other, _ := Unpack(text); !slices.Equal(other, was) {
			t.Errorf("packing %d: Unpack answers %v for %v", p, other, was)
		}
	}
}

func TestP1PackTakesAllNumbers(t *testing.T) {
	numbers := []int{math.MinInt, -1, 0, 1, 2, 3, 4, 255, 256, 257, 258, 259, 260, math.MaxInt}
	for _, p := range numbers {
		for _, k := range numbers {
			text, e := Pack(Packing(p), Kind(k), nil)
			if right := p >= 0 && p <= 3 && k >= 0 && k <= 2; right != (e == OK) || right != (text != "") || !right && e != ErrType {
				t.Errorf("Pack(%d, %d, nil) = %q, %d", p, k, text, e)
			}
		}
	}
}

func TestP2UnpackAnswersWhatWasPacked(t *testing.T) {
	for _, k := range kinds {
		for _, column := range columnsOf(k) {
			for _, p := range packings {
				text := mustPack(t, p, k, column)
				gotKind, got, e := Unpack(text)
				if gotKind != k || !slices.Equal(got, column) || e != OK {
					t.Fatalf("packing %d, kind %d, %v: Unpack(%q) = %d, %v, %d", p, k, column, text, gotKind, got, e)
				}
			}
		}
	}
}

func TestP2EveryByteOfAString(t *testing.T) {
	for b := range 256 {
		s := string([]byte{'a', byte(b)})
		right := b >= 32 && b <= 126 && b != '\''
		for _, p := range packings {
			text, e := Pack(p, Str, strs(s))
			if !right {
				if text != "" || e != ErrType {
					t.Errorf("Pack(%d, Str, %q) = %q, %d", p, s, text, e)
				}
				continue
			}
			if _, column, f := Unpack(text); e != OK || f != OK || !slices.Equal(column, strs(s)) {
				t.Errorf("Pack(%d, Str, %q) = %q, %d; Unpack = %v, %d", p, s, text, e, column, f)
			}
		}
	}
}

func TestP2EveryWidthOfANumber(t *testing.T) {
	for shift := range 64 {
		for _, n := range []int{1<<shift - 1, 1 << shift, -1 << shift, -1<<shift - 1} {
			for _, column := range [][]Cell{ints(n), ints(n, 0), ints(0, n, n), ints(-1, n, math.MaxInt), ints(math.MinInt, n)} {
				for _, p := range packings {
					text := mustPack(t, p, Int, column)
					if k, got, e := Unpack(text); k != Int || e != OK || !slices.Equal(got, column) {
						t.Fatalf("packing %d: %v becomes %d, %v, %d", p, column, k, got, e)
					}
				}
			}
		}
	}
}

func TestP2Refusals(t *testing.T) {
	bad := func(k Kind, c Cell) []Cell {
		return append(slices.Repeat([]Cell{cellsOf(k)[0]}, maxRows-1), c)
	}
	for _, c := range []struct {
		p      Packing
		k      Kind
		column []Cell
		want   Errno
	}{
		{Plain, Int, make([]Cell, 64), OK},
		{Plain, Int, make([]Cell, 65), ErrFull},
		{Plain, Str, make([]Cell, 100000), ErrFull},
		{4, Int, make([]Cell, 65), ErrFull},
		{Plain, 3, make([]Cell, 65), ErrFull},
		{Plain, Bool, slices.Repeat(ints(2), 65), ErrFull},
		{-1, Int, nil, ErrType},
		{4, Int, nil, ErrType},
		{Plain, -1, nil, ErrType},
		{Plain, 3, nil, ErrType},
		{Plain, 3, withNulls(nil, 1), ErrType},
		{Plain, Int, bad(Int, Cell{S: "a"}), ErrType},
		{Runs, Int, bad(Int, Cell{N: 1, S: " "}), ErrType},
		{Dict, Int, bad(Int, Cell{Null: true, N: 1}), ErrType},
		{Bits, Int, bad(Int, Cell{Null: true, S: "a"}), ErrType},
		{Plain, Str, bad(Str, Cell{N: 1}), ErrType},
		{Runs, Str, bad(Str, Cell{N: -1, S: "a"}), ErrType},
		{Dict, Str, bad(Str, Cell{Null: true, N: -1}), ErrType},
		{Bits, Str, bad(Str, Cell{Null: true, S: " "}), ErrType},
		{Plain, Str, strs("twelve bytes"), OK},
		{Plain, Str, strs("thirteen byte"), ErrType},
		{Plain, Str, strs(strings.Repeat("a", 1000000)), ErrType},
		{Plain, Str, strs("é"), ErrType},
		{Plain, Bool, ints(0, 1), OK},
		{Plain, Bool, bad(Bool, Cell{N: 2}), ErrType},
		{Runs, Bool, bad(Bool, Cell{N: -1}), ErrType},
		{Dict, Bool, bad(Bool, Cell{S: "a"}), ErrType},
		{Bits, Bool, bad(Bool, Cell{N: 1, S: "a"}), ErrType},
		{Bits, Bool, bad(Bool, Cell{Null: true, N: 1}), ErrType},
	} {
		text, e := Pack(c.p, c.k, c.column)
		if e != c.want || (text != "") != (e == OK) {
			t.Errorf("Pack(%d, %d, %d cells, %.3v) = %q, %d, want %d", c.p, c.k, len(c.column), c.column, text, e, c.want)
		}
	}
}

func TestP3NoTextStandsForTwo(t *testing.T) {
	type packed struct {
		p      Packing
		k      Kind
		column string
	}
	stands := map[string]packed{}
	for _, k := range kinds {
		for _, column := range columnsOf(k) {
			for _, p := range packings {
				text := mustPack(t, p, k, column)
				now := packed{p, k, listed(column)}
				if was, known := stands[text]; known && was != now {
					t.Fatalf("%q stands for %v and for %v", text, was, now)
				}
				stands[text] = now
			}
		}
	}
}

// listed writes a column so that different columns are written differently.
func listed(column []Cell) string {
	var out strings.Builder
	for _, c := range column {
		out.WriteString(strconv.FormatBool(c.Null) + " " + strconv.Itoa(c.N) + " " + strconv.Quote(c.S) + ", ")
	}
	return out.String()
}

func TestP3ChangedTexts(t *testing.T) {
	for _, k := range kinds {
		pool := cellsOf(k)
		for _, column := range [][]Cell{{}, pool[:1], pool[:2], pool, slices.Repeat(pool[1:3], 20)} {
			for _, p := range packings {
				text := mustPack(t, p, k, column)
				for i := range len(text) {
					mustRefuse(t, text[:i])
					for b := range 256 {
						mustBeRefusedOrStand(t, text[:i]+string([]byte{byte(b)})+text[i+1:])
					}
				}
				for b := range 256 {
					mustRefuse(t, text+string([]byte{byte(b)}))
				}
				mustRefuse(t, text+text)
			}
		}
	}
}

func TestP3ShortTexts(t *testing.T) {
	mustRefuse(t, "")
	for first := range 256 {
		mustRefuse(t, string([]byte{byte(first)}))
		for second := range 256 {
			mustRefuse(t, string([]byte{byte(first), byte(second)}))
			for _, tail := range []string{"\x00", "\x01", "\x02", "\x40", "\x41", "\xff", "\x01\x00", "\x02\x01\x01", "\x40\xff\xff"} {
				mustBeRefusedOrStand(t, string([]byte{byte(first), byte(second)})+tail)
			}
		}
	}
}

func TestP3LongTexts(t *testing.T) {
	for _, p := range packings {
		for _, k := range kinds {
			for _, count := range []byte{0, 1, 64, 65, 255} {
				head := string([]byte{byte(p), byte(k), count})
				for _, tail := range []string{"\x00", "\x01", "\x7f", "\xff", "\xff\x00", "\x40 "} {
					mustRefuse(t, head+strings.Repeat(tail, 100000))
				}
			}
		}
	}
}

// laidBy answers a text of a packing whose body is laid by hand.
func laidBy(p Packing, k Kind, count int, lay func(out *bitWriter)) string {
	var out bitWriter
	out.put(uint64(p), byteWidth)
	out.put(uint64(k), byteWidth)
	out.put(uint64(count), byteWidth)
	lay(&out)
	return string(out.laid)
}

func putAll(out *bitWriter, width int, values ...uint64) {
	for _, v := range values {
		out.put(v, width)
	}
}

func mustRefuseEach(t *testing.T, texts map[string]string) {
	for name, text := range texts {
		t.Run(name, func(t *testing.T) { mustRefuse(t, text) })
	}
}

// The texts of the next tests are such that a careless reader would take them
// for a column, though Pack writes that column differently or not at all.

func TestP3OtherWaysToSayACell(t *testing.T) {
	mustRefuseEach(t, map[string]string{
		"a number in more bits than it takes": laidBy(Plain, Int, 1, func(out *bitWriter) { putAll(out, 8, 4, 2) }),
		"a number in more than 64 bits":       laidBy(Plain, Int, 1, func(out *bitWriter) { putAll(out, 8, 66, 2, 0, 0, 0, 0, 0, 0, 0, 0) }),
		"a bool above 1":                      laidBy(Plain, Bool, 1, func(out *bitWriter) { out.putNumber(2) }),
		"a bool below 0":                      laidBy(Plain, Bool, 1, func(out *bitWriter) { out.putNumber(-1) }),
		"a string above its bound":            laidBy(Plain, Str, 1, func(out *bitWriter) { out.putCell(Str, Cell{S: "thirteen byte"}) }),
		"a string with a quote":               laidBy(Plain, Str, 1, func(out *bitWriter) { out.putCell(Str, Cell{S: "'"}) }),
		"a string with a newline":             laidBy(Plain, Str, 1, func(out *bitWriter) { out.putCell(Str, Cell{S: "\n"}) }),
		"65 cells":                            laidBy(Plain, Int, 65, func(out *bitWriter) { plainLayout{}.write(out, Int, make([]Cell, 65)) }),
		"a packing that is none":              laidBy(4, Int, 1, func(out *bitWriter) { out.putNumber(1) }),
		"a kind that is none":                 laidBy(Plain, 3, 1, func(out *bitWriter) { out.putNumber(1) }),
	})
}

func TestP3OtherWaysToSayRuns(t *testing.T) {
	mustRefuseEach(t, map[string]string{
		"a run cut in two": laidBy(Runs, Int, 2, func(out *bitWriter) {
			out.put(0, 8)
			out.putNumber(1)
			out.put(0, 8)
			out.putNumber(1)
		}),
		"a run beyond the count": laidBy(Runs, Int, 2, func(out *bitWriter) {
			out.put(2, 8)
			out.putNumber(1)
		}),
	})
}

func TestP3OtherWaysToSayADictionary(t *testing.T) {
	mustRefuseEach(t, map[string]string{
		"an entry that no cell has": laidBy(Dict, Int, 1, func(out *bitWriter) {
			out.put(2, 8)
			out.putNumber(1)
			out.putNumber(2)
			out.put(0, 1)
		}),
		"entries of an empty column": laidBy(Dict, Int, 0, func(out *bitWriter) {
			out.put(1, 8)
			out.putNumber(1)
		}),
		"no entry for a cell": laidBy(Dict, Int, 1, func(out *bitWriter) { out.put(0, 8) }),
		"an entry twice": laidBy(Dict, Int, 2, func(out *bitWriter) {
			out.put(2, 8)
			out.putNumber(1)
			out.putNumber(1)
			putAll(out, 1, 0, 1)
		}),
		"entries in another order": laidBy(Dict, Int, 2, func(out *bitWriter) {
			out.put(2, 8)
			out.putNumber(2)
			out.putNumber(1)
			putAll(out, 1, 1, 0)
		}),
		"a place behind the entries": laidBy(Dict, Int, 4, func(out *bitWriter) {
			out.put(3, 8)
			out.putNumber(1)
			out.putNumber(2)
			out.putNumber(3)
			putAll(out, 2, 0, 1, 2, 3)
		}),
	})
}

func TestP3OtherWaysToSayBits(t *testing.T) {
	mustRefuseEach(t, map[string]string{
		"a frame wider than its numbers": laidBy(Bits, Int, 2, func(out *bitWriter) {
			out.putFlag(false)
			out.putNumber(1)
			out.put(2, frameWidth)
			putAll(out, 2, 0, 1)
		}),
		"a frame beyond 64 bits": laidBy(Bits, Int, 1, func(out *bitWriter) {
			out.putFlag(false)
			out.putNumber(1)
			out.put(127, frameWidth)
			putAll(out, 127, 0)
		}),
		"a frame that begins below its numbers": laidBy(Bits, Int, 2, func(out *bitWriter) {
			out.putFlag(false)
			out.putNumber(0)
			out.put(2, frameWidth)
			putAll(out, 2, 1, 2)
		}),
		"a frame that begins at null": laidBy(Bits, Int, 2, func(out *bitWriter) {
			out.putFlag(false)
			out.put(0, byteWidth)
			out.put(1, frameWidth)
			putAll(out, 1, 0, 1)
		}),
		"a frame that leaves 64 bits": laidBy(Bits, Int, 2, func(out *bitWriter) {
			out.putFlag(false)
			out.putNumber(math.MaxInt)
			out.put(1, frameWidth)
			putAll(out, 1, 0, 1)
		}),
		"nulls told of where there are none": laidBy(Bits, Int, 1, func(out *bitWriter) {
			out.putFlag(true)
			out.putNumber(1)
			out.put(0, frameWidth)
			out.putFlag(false)
		}),
		"a string in bits above its bound": laidBy(Bits, Str, 1, func(out *bitWriter) {
			out.putFlag(false)
			out.put(13, lengthWidth)
			out.putString("thirteen byte", letterWidth)
		}),
		"a string in bits with byte 127": laidBy(Bits, Str, 1, func(out *bitWriter) {
			out.putFlag(false)
			out.put(1, lengthWidth)
			out.putString("\x7f", letterWidth)
		}),
		"a bit set in what is left of the last byte": laidBy(Bits, Bool, 1, func(out *bitWriter) {
			bitsLayout{}.write(out, Bool, ints(1))
			out.put(1, 1)
		}),
	})
}

func FuzzP3Unpack(f *testing.F) {
	for _, k := range kinds {
		for _, p := range packings {
			text, _ := Pack(p, k, cellsOf(k))
			f.Add(text)
		}
	}
	f.Fuzz(mustBeRefusedOrStand)
}

func mustHaveAtMost(t *testing.T, most int, p Packing, k Kind, column []Cell) {
	t.Helper()
	if text := mustPack(t, p, k, column); len(text) > most {
		t.Fatalf("packing %d, kind %d, %d cells, %.2v: %d bytes, at most %d are promised", p, k, len(column), column, len(text), most)
	}
}

func TestP4RunsOfOneCell(t *testing.T) {
	for _, k := range kinds {
		for _, c := range cellsOf(k) {
			for length := range maxRows + 1 {
				mustHaveAtMost(t, 32, Runs, k, slices.Repeat([]Cell{c}, length))
			}
		}
	}
}

func TestP4DictOfTwoCells(t *testing.T) {
	for _, k := range kinds {
		for _, one := range cellsOf(k) {
			for _, other := range cellsOf(k) {
				for length := range maxRows + 1 {
					column := slices.Repeat([]Cell{one, other}, maxRows/2)
					mustHaveAtMost(t, 64, Dict, k, column[:length])
					mustHaveAtMost(t, 64, Dict, k, append(slices.Repeat([]Cell{one}, length/2), slices.Repeat([]Cell{other}, length/2)...))
				}
			}
		}
	}
}

func TestP4BitsOfSmallNumbers(t *testing.T) {
	for least := range 16 {
		for greatest := least; greatest < 16; greatest++ {
			column := make([]Cell, maxRows)
			for i := range column {
				column[i].N = least + i%(greatest-least+1)
			}
			for length := range maxRows + 1 {
				mustHaveAtMost(t, 48, Bits, Int, column[:length])
			}
		}
	}
}
