// Package words is layer 1: names, numbers, words for sizes and rights, and the words of a line. See shared/doc/01-words.md.
package words

import (
	"strconv"
	"strings"

	"atlas/api"
)

// numberEnd: numbers that are written lie below it.
const numberEnd = 1 << 40

// sizeWords: the word of each size, by its number. The empty text at 0 is the word of none.
var sizeWords = [...]string{api.Small: "4k", api.Large: "64k", api.Section: "1m", api.Super: "16m"}

// Width: the runes of a text; a byte that begins none counts as one (P101).
func Width(s string) int {
	width := 0
	for range s {
		width++
	}
	return width
}

// Name: is it a name (P102)?
func Name(s string) bool {
	width := 0
	for _, r := range s {
		if !inName(r, width == 0) {
			return false
		}
		width++
		if width > api.MaxName {
			return false
		}
	}
	return width > 0
}

// inName: may the rune stand in a name, as its first one or behind it?
func inName(r rune, first bool) bool {
	switch {
	case isLetter(r):
		return true
	case '0' <= r && r <= '9', r == '_':
		return !first
	}
	return false
}

// isLetter needs no word on bad runes: a range gives them as U+FFFD, which is no letter.
func isLetter(r rune) bool {
	switch {
	case r == '\u00d7', r == '\u00f7', r == '\u03a2':
		return false
	case 'a' <= r && r <= 'z', 'A' <= r && r <= 'Z':
		return true
	case '\u00c0' <= r && r <= '\u024f', '\u0391' <= r && r <= '\u03c9':
		return true
	}
	return false
}

// Number: the number that the text writes, below 2 to the 40th (P103).
func Number(s string) (uint64, api.Errno) {
	if digits, ok := strings.CutPrefix(s, "0x"); ok {
		return readDigits(digits, 16)
	}
	return readDigits(s, 10)
}

// readDigits: the number that digits of the base write, with a single _ between some of them.
func readDigits(s string, base uint64) (uint64, api.Errno) {
	value := uint64(0)
	behindDigit := false
	for _, r := range s {
		if r == '_' && behindDigit {
			behindDigit = false
			continue
		}
		digit := digitValue(r)
		if digit >= base {
			return 0, api.ErrNumber
		}
		value = value*base + digit
		if value >= numberEnd { // asked at each digit, so that no text makes the value wrap round
			return 0, api.ErrNumber
		}
		behindDigit = true
	}
	if !behindDigit { // the empty text, or a _ that no digit follows
		return 0, api.ErrNumber
	}
	return value, api.OK
}

// digitValue: what a digit counts; for any other rune a number that is at or above every base.
func digitValue(r rune) uint64 {
	switch {
	case '0' <= r && r <= '9':
		return uint64(r - '0')
	case 'a' <= r && r <= 'f':
		return uint64(r-'a') + 10
	case 'A' <= r && r <= 'F':
		return uint64(r-'A') + 10
	}
	return 16
}

// Hex: the number as a text (P104).
func Hex(v uint64) string {
	return "0x" + strconv.FormatUint(v, 16)
}

// Size: the size of a block, by its word (P105).
func Size(s string) (int, api.Errno) {
	for size := api.Small; size <= api.Super; size++ {
		if sizeWords[size] == s {
			return size, api.OK
		}
	}
	return 0, api.ErrWord
}

// SizeText: its word (P105).
func SizeText(size int) string {
	if size < api.Small || size > api.Super {
		return ""
	}
	return sizeWords[size]
}

// Rights: rights, by their word (P106).
func Rights(s string) (api.Rights, api.Errno) {
	if len(s) != 3 {
		return api.Rights{}, api.ErrWord
	}
	read, readOK := readRight(s[0], 'r')
	write, writeOK := readRight(s[1], 'w')
	exec, execOK := readRight(s[2], 'x')
	if !readOK || !writeOK || !execOK {
		return api.Rights{}, api.ErrWord
	}
	return api.Rights{Read: read, Write: write, Exec: exec}, api.OK
}

// readRight: whether the byte grants the right of that letter; ok: whether it says anything of it.
func readRight(b, letter byte) (granted, ok bool) {
	return b == letter, b == letter || b == '-'
}

// RightsText: their word (P106).
func RightsText(r api.Rights) string {
	return rightText(r.Read, "r") + rightText(r.Write, "w") + rightText(r.Exec, "x")
}

// rightText: the letter of a right that is granted, or a dash.
func rightText(granted bool, letter string) string {
	if granted {
		return letter
	}
	return "-"
}

// Fields: the words of a line (P107).
func Fields(line string) []string {
	text, _, _ := strings.Cut(line, "#")
	var fields []string
	start := -1 // where the word that is gone through begins; below 0 between words
	for i, r := range text {
		switch {
		case !isBlank(r):
			if start < 0 {
				start = i
			}
		case start >= 0:
			fields = append(fields, text[start:i])
			start = -1
		}
	}
	if start >= 0 {
		fields = append(fields, text[start:])
	}
	return fields
}

// isBlank: the line feed is none, since a line has none.
func isBlank(r rune) bool {
	switch r {
	case '\t', '\r', ' ', '\u00a0', '\u2003', '\u3000':
		return true
	}
	return false
}
