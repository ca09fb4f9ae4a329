// Package words takes a query apart into its words (P3). Tables are written with names, numbers and texts of the same form (P2), so what reads these is open to their reader.
package words

import (
	"strconv"
	"strings"

	"bags/api"
	"bags/fault"
)

// Kind says what a word is.
type Kind int

const (
	End     Kind = iota // behind the last word
	Fixed               // a keyword or a sign
	Name                // a name
	Literal             // a number or a text
)

// Word is a word of a query.
type Word struct {
	Kind  Kind
	Spelt string    // how a Fixed or a Name is spelt
	Value api.Value // what a Literal says
}

// signs stand with the longer ones first, so that the first that fits is as long as it can be.
var signs = [...]string{"<>", "<=", ">=", "(", ")", ",", ".", "*", "+", "-", "/", "%", "=", "<", ">"}

// Keywords has the kind of every keyword.
func Keywords() map[string]Kind {
	kinds := map[string]Kind{}
	for word := range strings.FieldsSeq("select distinct from where group by having as union intersect except all any and or not exists in is null count sum min max") {
		kinds[word] = Fixed
	}
	return kinds
}

// Read takes a query apart into its words.
func Read(query string) []Word {
	if len(query) > api.MaxQuery {
		fault.Throw(api.ErrLex, api.MaxQuery)
	}
	// Names are pieces of the text that is read, and a result's columns have them: the caller's must not be kept for their sake.
	query = strings.Clone(query)
	var list []Word
	keywords := Keywords()
	for at := gap(query); at < len(query); at += gap(query[at:]) {
		word, length := first(query[at:], keywords)
		if length == 0 {
			fault.Throw(api.ErrLex, at)
		}
		list = append(list, word)
		at += length
	}
	return list
}

// gap counts the bytes ahead of the next word.
func gap(rest string) int {
	at := 0
	for at < len(rest) {
		switch {
		case isSpace(rest[at]):
			at++
		case strings.HasPrefix(rest[at:], "--"):
			at += run(rest[at:], inLine)
		default:
			return at
		}
	}
	return at
}

// first reads the word with which rest begins, and counts its bytes: 0 if no word does.
func first(rest string, keywords map[string]Kind) (Word, int) {
	switch {
	case isDigit(rest[0]):
		return number(rest)
	case isNamed(rest[0]):
		return name(rest, keywords)
	case rest[0] == '\'':
		said, length := Quoted(rest)
		return Word{Kind: Literal, Value: api.Text(said)}, length
	}
	return sign(rest)
}

func number(rest string) (Word, int) {
	length := Digits(rest)
	n, err := strconv.ParseInt(rest[:length], 10, 64)
	if err != nil {
		return Word{}, 0
	}
	return Word{Kind: Literal, Value: api.Int(n)}, length
}

func name(rest string, keywords map[string]Kind) (Word, int) {
	length := NameBytes(rest)
	spelt := rest[:length]
	if kind, ok := keywords[spelt]; ok {
		return Word{Kind: kind, Spelt: spelt}, length
	}
	return Word{Kind: Name, Spelt: spelt}, length
}

func sign(rest string) (Word, int) {
	for _, s := range signs {
		if strings.HasPrefix(rest, s) {
			return Word{Kind: Fixed, Spelt: s}, len(s)
		}
	}
	return Word{}, 0
}

// Quoted reads the text with whose quote s begins: what it says, and how many bytes it takes: 0 if it does not end in its line.
func Quoted(s string) (string, int) {
	var said []byte
	for at := 1; at < len(s) && inLine(s[at]); at++ {
		if s[at] == '\'' {
			if !strings.HasPrefix(s[at:], "''") {
				return string(said), at + 1
			}
			at++
		}
		said = append(said, s[at])
	}
	return "", 0
}

// Digits counts the digits with which s begins.
func Digits(s string) int { return run(s, isDigit) }

// NameBytes counts the bytes of the name, or keyword, with which s begins.
func NameBytes(s string) int {
	if Digits(s) > 0 {
		return 0
	}
	return run(s, isNamed)
}

// run counts the bytes, from the first on, that belong together.
func run(s string, belongs func(byte) bool) int {
	n := 0
	for n < len(s) && belongs(s[n]) {
		n++
	}
	return n
}

func isSpace(c byte) bool { return c == ' ' || c == '\t' || c == '\n' }

func inLine(c byte) bool { return c != '\n' }

func isDigit(c byte) bool { return '0' <= c && c <= '9' }

func isNamed(c byte) bool {
	return isDigit(c) || 'a' <= c && c <= 'z' || 'A' <= c && c <= 'Z' || c == '_'
}
