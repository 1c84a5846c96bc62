package asm

import (
	"strconv"
	"strings"

	"atlas/api"
)

// The registers with a meaning of their own.
const (
	sp = 13
	pc = 15
)

// controls: how many registers a coprocessor has.
const controls = 16

// always: the condition that is not written.
const always = 14

// registerNames: as they are written; the last three are read by their numbers too.
func registerNames() [pc + 1]string {
	return [...]string{"r0", "r1", "r2", "r3", "r4", "r5", "r6", "r7", "r8", "r9", "r10", "r11", "r12", "sp", "lr", "pc"}
}

// conditions: the words of those below always, by their numbers.
func conditions() [always]string {
	return [...]string{"eq", "ne", "cs", "cc", "mi", "pl", "vs", "vc", "hi", "ls", "ge", "lt", "gt", "le"}
}

// shift: its word, and the bounds of the number behind it.
type shift struct {
	name   string
	lo, hi int64
}

// shifts: by their kinds.
func shifts() [api.ShROR + 1]shift {
	return [...]shift{
		api.ShLSL: {"lsl", 0, 31},
		api.ShLSR: {"lsr", 1, 32},
		api.ShASR: {"asr", 1, 32},
		api.ShROR: {"ror", 1, 31},
	}
}

// rrx: the word of a turn by one bit through the carry, which stands in an instruction as a turn by none.
const rrx = "rrx"

// maskLetters: of a status register's parts, the highest bit of the mask first.
const maskLetters = "fsxc"

// registerOf: the number of a register.
func registerOf(text string) (int, bool) {
	for n, name := range registerNames() {
		if text == name || n >= sp && text == numbered('r', n) {
			return n, true
		}
	}
	return 0, false
}

// controlOf: the number of c0 to c15.
func controlOf(text string) (int, bool) {
	for n := range controls {
		if text == numbered('c', n) {
			return n, true
		}
	}
	return 0, false
}

func numbered(letter byte, n int) string { return string(letter) + strconv.Itoa(n) }

// conditionOf: the number of a condition; of no word that of always.
func conditionOf(text string) (int, bool) {
	if text == "" || text == "al" {
		return always, true
	}
	for n, name := range conditions() {
		if text == name {
			return n, true
		}
	}
	return 0, false
}

func conditionText(cond int) string {
	if cond == always {
		return ""
	}
	return conditions()[cond]
}

// shiftOf: the kind of a shift that has a number, or a register, behind it.
func shiftOf(text string) (int, bool) {
	for kind, s := range shifts() {
		if text == s.name {
			return kind, true
		}
	}
	return 0, false
}

// statusOf: cpsr; or spsr, whose mark is set.
func statusOf(text string) (saved, ok bool) {
	saved = text == statusText(true)
	return saved, saved || text == statusText(false)
}

func statusText(saved bool) string {
	if saved {
		return "spsr"
	}
	return "cpsr"
}

// maskOf: the mask that letters write, in their order; 0: they write none.
func maskOf(letters string) int {
	mask := 0
	for n := range len(maskLetters) {
		if rest, ok := strings.CutPrefix(letters, maskLetters[n:n+1]); ok {
			mask |= 8 >> n
			letters = rest
		}
	}
	if letters != "" {
		return 0
	}
	return mask
}

func maskText(mask int) string {
	text := ""
	for n := range len(maskLetters) {
		if mask&(8>>n) != 0 {
			text += maskLetters[n : n+1]
		}
	}
	return text
}
