package quarry

import (
	"math/rand"
	"slices"
	"strings"
	"testing"
)

// grammar is the document's, without its repetitions; `bar` is the sign `|`.
const grammar = `
command = create name ( cols ) | drop name | load name rows | grant name on name ( names ) where expr | revoke name on name | from name stages
cols = name kind | name kind , cols
kind = int | str | bool
rows = row | row rows
row = ( values )
values = value | value , values
value = number | - number | string | true | false | null
names = name | name , names
stages = | bar stage stages
stage = where expr | map maps | join name on name = name | group : mades | group names : mades | order orders | limit number
maps = name = expr | name = expr , maps
mades = name = made | name = made , mades
made = count ( ) | count ( name ) | sum ( name ) | min ( name ) | max ( name )
orders = key | key , orders
key = name | name down
expr = both | expr or both
both = deny | both and deny
deny = not deny | test
test = total | total cmp total | total is null | total is not null
cmp = = | <> | < | <= | > | >=
total = part | total + part | total - part
part = turn | part * turn | part / turn | part % turn
turn = - turn | atom
atom = number | string | true | false | name | ( expr )`

type rules map[string][][]string

func readRules() rules {
	out := rules{}
	for line := range strings.SplitSeq(strings.TrimSpace(grammar), "\n") {
		name, body, _ := strings.Cut(line, " = ")
		for choice := range strings.SplitSeq(" "+body+" ", " | ") {
			out[name] = append(out[name], strings.Fields(choice))
		}
	}
	return out
}

// sentence makes the tokens of a command at random.
func (g rules) sentence(r *rand.Rand, symbol string, depth int) []string {
	choices, inner := g[symbol]
	if !inner {
		return []string{symbol}
	}
	choice := choices[r.Intn(len(choices))]
	if depth <= 0 {
		choice = leastOf(choices)
	}
	var out []string
	for _, part := range choice {
		out = append(out, g.sentence(r, part, depth-1)...)
	}
	return out
}

// leastOf answers the first choice that does not lead back into itself.
func leastOf(choices [][]string) []string {
	if first := choices[0][:min(len(choices[0]), 1)]; slices.Equal(first, []string{"not"}) || slices.Equal(first, []string{"-"}) {
		return choices[1]
	}
	return choices[0]
}

type item struct {
	rule        string
	choice, dot int
	origin      int
}

// firstWrong answers the first of the tokens that cannot stand where it stands,
// or how many there are, and whether they are a whole command: by Earley's way,
// which goes through all readings at once.
func (g rules) firstWrong(tokens []string) (at int, whole bool) {
	sets := make([]map[item]bool, len(tokens)+1)
	for i := range sets {
		sets[i] = map[item]bool{}
	}
	for c := range g["command"] {
		sets[0][item{"command", c, 0, 0}] = true
	}
	for at = 0; ; at++ {
		g.close(sets, at)
		if at == len(tokens) {
			break
		}
		for x := range sets[at] {
			if body := g[x.rule][x.choice]; x.dot < len(body) && body[x.dot] == tokens[at] {
				x.dot++
				sets[at+1][x] = true
			}
		}
		if len(sets[at+1]) == 0 {
			return at, false
		}
	}
	for x := range sets[at] {
		whole = whole || x.rule == "command" && x.origin == 0 && x.dot == len(g["command"][x.choice])
	}
	return at, whole
}

// close adds to a set what its items await or end, until that adds nothing.
func (g rules) close(sets []map[item]bool, at int) {
	for size := -1; size < len(sets[at]); {
		size = len(sets[at])
		var more []item
		for x := range sets[at] {
			body := g[x.rule][x.choice]
			if x.dot < len(body) {
				for c := range g[body[x.dot]] {
					more = append(more, item{body[x.dot], c, 0, at})
				}
				continue
			}
			for y := range sets[x.origin] {
				if b := g[y.rule][y.choice]; y.dot < len(b) && b[y.dot] == x.rule {
					y.dot++
					more = append(more, y)
				}
			}
		}
		for _, x := range more {
			sets[at][x] = true
		}
	}
}

func spelt(r *rand.Rand, symbol string) string {
	of := func(choices ...string) string { return choices[r.Intn(len(choices))] }
	switch symbol {
	case "name":
		return of("t", "u", "abcdefgh", "fro", "nulls")
	case "number":
		return of("0", "7", "9223372036854775807")
	case "string":
		return of("''", "'a b'", "'(('", "'twelve bytes'")
	case "bar":
		return "|"
	}
	return symbol
}

// Commands at random, most of them with a token changed, put in or taken out,
// against the document's grammar.
func TestP5AgainstTheGrammar(t *testing.T) {
	r := rand.New(rand.NewSource(1))
	g := readRules()
	var all []string
	for symbol := range g {
		for _, choice := range g[symbol] {
			for _, part := range choice {
				if _, inner := g[part]; !inner {
					all = append(all, part)
				}
			}
		}
	}
	slices.Sort(all)
	right, wrong := 0, 0
	for range 20000 {
		tokens := g.sentence(r, "command", 2+r.Intn(12))
		if i := r.Intn(len(tokens) + 1); r.Intn(4) > 0 {
			switch r.Intn(3) {
			case 0:
				tokens = append(tokens[:i:i], append([]string{all[r.Intn(len(all))]}, tokens[i:]...)...)
			case 1:
				tokens = tokens[:i]
			case 2:
				tokens = append(tokens[:i:i], tokens[min(i+1, len(tokens)):]...)
			}
		}
		text, places := "", []int{}
		for _, symbol := range tokens {
			text += strings.Repeat(" ", 1+r.Intn(2))
			places = append(places, len(text))
			text += spelt(r, symbol)
		}
		if len(text) > maxText {
			continue
		}
		_, e, place := New(Options{}).Do("eve", text)
		if e == ErrDeep {
			continue
		}
		at, whole := g.firstWrong(tokens)
		places = append(places, len(text))
		if whole {
			right++
			if e != ErrDenied && e != ErrName {
				t.Fatalf("%q: %d, %d, but it is a command", text, e, place)
			}
		} else {
			wrong++
			if e != ErrText || place != places[at] {
				t.Fatalf("%q: %d, %d, want %d, %d", text, e, place, ErrText, places[at])
			}
		}
	}
	if right < 2000 || wrong < 2000 {
		t.Errorf("%d commands and %d that are none: too few to tell", right, wrong)
	}
}
