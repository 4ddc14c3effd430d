package quarry

import (
	"strconv"
	"strings"
)

type tokenKind int

const (
	endToken tokenKind = iota // behind the last one, at the text's length
	badToken                  // what begins no token
	nameToken
	numberToken
	stringToken

	// The signs. Those of two bytes stand first, because a token is as long as
	// it can be.
	unequalSign
	atMostSign
	atLeastSign
	equalSign
	belowSign
	aboveSign
	openSign
	closeSign
	commaSign
	barSign
	colonSign
	plusSign
	minusSign
	timesSign
	overSign
	restSign

	// The words that are taken.
	fromWord
	whereWord
	mapWord
	joinWord
	onWord
	groupWord
	orderWord
	downWord
	limitWord
	createWord
	dropWord
	loadWord
	grantWord
	revokeWord
	andWord
	orWord
	notWord
	isWord
	nullWord
	trueWord
	falseWord
	intWord
	strWord
	boolWord
	countWord
	sumWord
	minWord
	maxWord
)

const (
	firstSign, lastSign = unequalSign, restSign
	firstWord, lastWord = fromWord, maxWord
)

var spellings = [...]string{
	unequalSign: "<>", atMostSign: "<=", atLeastSign: ">=", equalSign: "=", belowSign: "<", aboveSign: ">",
	openSign: "(", closeSign: ")", commaSign: ",", barSign: "|", colonSign: ":",
	plusSign: "+", minusSign: "-", timesSign: "*", overSign: "/", restSign: "%",
	fromWord: "from", whereWord: "where", mapWord: "map", joinWord: "join", onWord: "on", groupWord: "group",
	orderWord: "order", downWord: "down", limitWord: "limit",
	createWord: "create", dropWord: "drop", loadWord: "load", grantWord: "grant", revokeWord: "revoke",
	andWord: "and", orWord: "or", notWord: "not", isWord: "is", nullWord: "null", trueWord: "true", falseWord: "false",
	intWord: "int", strWord: "str", boolWord: "bool",
	countWord: "count", sumWord: "sum", minWord: "min", maxWord: "max",
}

type token struct {
	kind   tokenKind
	place  int
	text   string // of a name or a string
	number int
}

// tokensOf cuts a command up to its end or to the first byte that begins no
// token: the last token is one of these two, so that whoever reads the tokens
// finds the first error from the left by going no further than he can.
func tokensOf(command string) []token {
	var tokens []token
	for place := 0; ; {
		place += blanks(command[place:])
		next, length := firstToken(command[place:])
		next.place = place
		tokens = append(tokens, next)
		if next.kind == endToken || next.kind == badToken {
			return tokens
		}
		place += length
	}
}

func blanks(text string) int {
	return len(text) - len(strings.TrimLeft(text, " "))
}

func firstToken(text string) (token, int) {
	if text == "" {
		return token{kind: endToken}, 0
	}
	switch first := text[0]; {
	case isLetter(first):
		return firstWordOf(text)
	case isDigit(first):
		return firstNumber(text)
	case first == '\'':
		return firstString(text)
	}
	return firstSignOf(text)
}

func isLetter(b byte) bool { return b >= 'a' && b <= 'z' }

func isDigit(b byte) bool { return b >= '0' && b <= '9' }

func lengthOf(text string, belongs func(byte) bool) int {
	for i := range len(text) {
		if !belongs(text[i]) {
			return i
		}
	}
	return len(text)
}

// Names and strings are cloned, because tables and grants keep them, and no
// command is to be kept.
func firstWordOf(text string) (token, int) {
	length := lengthOf(text, isLetter)
	if length > maxLetters {
		return token{kind: badToken}, 0
	}
	word := text[:length]
	for kind := firstWord; kind <= lastWord; kind++ {
		if spellings[kind] == word {
			return token{kind: kind}, length
		}
	}
	return token{kind: nameToken, text: strings.Clone(word)}, length
}

func firstNumber(text string) (token, int) {
	length := lengthOf(text, isDigit)
	if length > maxDigits {
		return token{kind: badToken}, 0
	}
	number, err := strconv.Atoi(text[:length])
	if err != nil {
		return token{kind: badToken}, 0
	}
	return token{kind: numberToken, number: number}, length
}

func firstString(text string) (token, int) {
	inside, _, ended := strings.Cut(text[1:], "'")
	if !ended || !isString(inside) {
		return token{kind: badToken}, 0
	}
	return token{kind: stringToken, text: strings.Clone(inside)}, len(inside) + 2
}

func firstSignOf(text string) (token, int) {
	for kind := firstSign; kind <= lastSign; kind++ {
		if strings.HasPrefix(text, spellings[kind]) {
			return token{kind: kind}, len(spellings[kind])
		}
	}
	return token{kind: badToken}, 0
}
