package asm

import (
	"strings"
	"unicode/utf8"

	"atlas/api"
	"atlas/words"
)

// The kinds of tokens; the kind of a sign is the sign.
const (
	none    = 0 // there is no token
	aWord   = 'a'
	aNumber = '0' // a number or a character
	aString = '"'
)

// token: its kind; the text of a word, the bytes of a string; what a number or a character counts.
type token struct {
	kind   byte
	text   string
	number int64
}

// The bytes with a meaning of their own between tokens.
const (
	blanks  = "\t\r "
	remarks = "@;"
	signs   = ",:#[]{}!+-"
)

// numberEnd: numbers lie below it.
const numberEnd = 1 << 32

// cut: the tokens of a line.
func cut(line string) []token {
	var tokens []token
	rest := behindBlanks(line)
	for rest != "" && !has(remarks, rest[0]) {
		t, size := first(rest)
		tokens = append(tokens, t)
		rest = behindBlanks(rest[size:])
	}
	return tokens
}

func behindBlanks(s string) string {
	at := 0
	for at < len(s) && has(blanks, s[at]) {
		at++
	}
	return s[at:]
}

func has(set string, b byte) bool { return strings.IndexByte(set, b) >= 0 }

// first: the token with which the text begins, and how many bytes it has there.
func first(s string) (token, int) {
	switch b := s[0]; {
	case has(signs, b):
		return token{kind: b}, 1
	case b == '\'':
		return character(s)
	case b == '"':
		return quoted(s)
	case isDigit(s):
		size := span(s)
		n, e := words.Number(s[:size])
		need(e == api.OK && n < numberEnd, api.ErrSyntax)
		return token{kind: aNumber, number: int64(n)}, size
	case b == '.':
		size := 1 + span(s[1:])
		return token{kind: aWord, text: s[:size]}, size
	}
	size := span(s)
	need(size > 0, api.ErrSyntax)
	return token{kind: aWord, text: s[:size]}, size
}

// span: how many bytes the letters, digits and _ have with which the text begins.
func span(s string) int {
	for at := range s {
		if rest := s[at:]; !isDigit(rest) && rest[0] != '_' && !isLetter(rest) {
			return at
		}
	}
	return len(s)
}

// isDigit: does the text begin with a digit?
func isDigit(s string) bool { return '0' <= s[0] && s[0] <= '9' }

// isLetter: does the text begin with a letter? A name of one rune is a letter.
func isLetter(s string) bool {
	_, size := firstRune(s)
	return words.Name(s[:size])
}

// firstRune: with which the text begins, and how many bytes it has there: a bad one has one byte, that of the empty text none.
func firstRune(s string) (rune, int) {
	first := utf8.RuneError
	for at, r := range s {
		if at > 0 {
			return first, at
		}
		first = r
	}
	return first, len(s)
}

// character: a rune or an escape between two ' .
func character(s string) (token, int) {
	rest := s[1:]
	r, size := firstRune(rest)
	switch {
	case r == '\\':
		var b byte
		b, size = escape(rest)
		r = rune(b)
	case r == '\'', r == utf8.RuneError && size < 2: // a bad rune has one byte, the end of the line none
		giveUp(api.ErrSyntax)
	}
	need(strings.HasPrefix(rest[size:], "'"), api.ErrSyntax)
	return token{kind: aNumber, number: int64(r)}, size + 2
}

// quoted: bytes and escapes between two " .
func quoted(s string) (token, int) {
	var bytes []byte
	at := 1
	for at < len(s) && s[at] != '"' {
		b, size := s[at], 1
		if b == '\\' {
			b, size = escape(s[at:])
		}
		bytes = append(bytes, b)
		at += size
	}
	need(at < len(s), api.ErrSyntax)
	return token{kind: aString, text: string(bytes)}, at + 1
}

// escape: the byte of the escape with which the text begins, and how many bytes it has there.
func escape(s string) (byte, int) {
	need(len(s) >= 2, api.ErrSyntax)
	switch s[1] {
	case 'n':
		return '\n', 2
	case 't':
		return '\t', 2
	case '0':
		return 0, 2
	case '\\', '\'', '"':
		return s[1], 2
	}
	need(s[1] == 'x' && len(s) >= 4, api.ErrSyntax)
	n, e := words.Number("0x" + s[2:4])
	need(e == api.OK, api.ErrSyntax)
	return byte(n), 4
}
