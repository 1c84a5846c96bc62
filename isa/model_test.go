package isa_test

import (
	"strings"

	"atlas/api"
)

// table: the chapter's table, as it stands there.
const table = `
AND EOR SUB RSB ADD ADC SBC RSC ORR BIC | FormImm | cccc 001 oooo s nnnn dddd iiii iiii iiii
the same | FormReg | cccc 000 oooo s nnnn dddd kkkkk tt 0 mmmm
the same | FormRsr | cccc 000 oooo s nnnn dddd rrrr 0 tt 1 mmmm
TST TEQ CMP CMN | FormImm | cccc 001 oooo 1 nnnn 0000 iiii iiii iiii
the same | FormReg | cccc 000 oooo 1 nnnn 0000 kkkkk tt 0 mmmm
the same | FormRsr | cccc 000 oooo 1 nnnn 0000 rrrr 0 tt 1 mmmm
MOV MVN | FormImm | cccc 001 oooo s 0000 dddd iiii iiii iiii
the same | FormReg | cccc 000 oooo s 0000 dddd kkkkk tt 0 mmmm
the same | FormRsr | cccc 000 oooo s 0000 dddd rrrr 0 tt 1 mmmm
MOVW | | cccc 0011 0000 iiii dddd iiii iiii iiii
MOVT | | cccc 0011 0100 iiii dddd iiii iiii iiii
MUL | | cccc 0000 000s dddd 0000 rrrr 1001 mmmm
MLA | | cccc 0000 001s dddd aaaa rrrr 1001 mmmm
UMULL | | cccc 0000 100s dddd aaaa rrrr 1001 mmmm
UMLAL | | cccc 0000 101s dddd aaaa rrrr 1001 mmmm
SMULL | | cccc 0000 110s dddd aaaa rrrr 1001 mmmm
SMLAL | | cccc 0000 111s dddd aaaa rrrr 1001 mmmm
CLZ | | cccc 0001 0110 1111 dddd 1111 0001 mmmm
REV | | cccc 0110 1011 1111 dddd 1111 0011 mmmm
UXTB | | cccc 0110 1110 1111 dddd kk00 0111 mmmm
UXTH | | cccc 0110 1111 1111 dddd kk00 0111 mmmm
SXTB | | cccc 0110 1010 1111 dddd kk00 0111 mmmm
SXTH | | cccc 0110 1011 1111 dddd kk00 0111 mmmm
LDR | FormImm | cccc 010p u0w1 nnnn dddd iiii iiii iiii
STR | FormImm | cccc 010p u0w0 nnnn dddd iiii iiii iiii
LDRB | FormImm | cccc 010p u1w1 nnnn dddd iiii iiii iiii
STRB | FormImm | cccc 010p u1w0 nnnn dddd iiii iiii iiii
LDR | FormReg | cccc 011p u0w1 nnnn dddd kkkkk tt 0 mmmm
STR | FormReg | cccc 011p u0w0 nnnn dddd kkkkk tt 0 mmmm
LDRB | FormReg | cccc 011p u1w1 nnnn dddd kkkkk tt 0 mmmm
STRB | FormReg | cccc 011p u1w0 nnnn dddd kkkkk tt 0 mmmm
LDRH | FormImm | cccc 000p u1w1 nnnn dddd iiii 1011 iiii
STRH | FormImm | cccc 000p u1w0 nnnn dddd iiii 1011 iiii
LDRSB | FormImm | cccc 000p u1w1 nnnn dddd iiii 1101 iiii
LDRSH | FormImm | cccc 000p u1w1 nnnn dddd iiii 1111 iiii
LDRH | FormReg | cccc 000p u0w1 nnnn dddd 0000 1011 mmmm
STRH | FormReg | cccc 000p u0w0 nnnn dddd 0000 1011 mmmm
LDRSB | FormReg | cccc 000p u0w1 nnnn dddd 0000 1101 mmmm
LDRSH | FormReg | cccc 000p u0w1 nnnn dddd 0000 1111 mmmm
LDM | | cccc 100p u0w1 nnnn llll llll llll llll
STM | | cccc 100p u0w0 nnnn llll llll llll llll
B | | cccc 1010 iiii iiii iiii iiii iiii iiii
BL | | cccc 1011 iiii iiii iiii iiii iiii iiii
BX | | cccc 0001 0010 1111 1111 1111 0001 mmmm
BLX | | cccc 0001 0010 1111 1111 1111 0011 mmmm
SVC | | cccc 1111 iiii iiii iiii iiii iiii iiii
BKPT | | cccc 0001 0010 iiii iiii iiii 0111 iiii
MRS | | cccc 0001 0s00 1111 dddd 0000 0000 0000
MSR | FormReg | cccc 0001 0s10 kkkk 1111 0000 0000 mmmm
MSR | FormImm | cccc 0011 0s10 kkkk 1111 iiii iiii iiii
MCR | | cccc 1110 yyy0 xxxx dddd 1111 vvv1 zzzz
MRC | | cccc 1110 yyy1 xxxx dddd 1111 vvv1 zzzz
NOP | | cccc 0011 0010 0000 1111 0000 0000 0000
WFI | | cccc 0011 0010 0000 1111 0000 0000 0011
`

// names: of the operations, by their numbers, from 1 on.
var names = strings.Fields("- AND EOR SUB RSB ADD ADC SBC RSC TST TEQ CMP CMN ORR MOV BIC MVN MOVW MOVT MUL MLA UMULL UMLAL SMULL SMLAL CLZ REV UXTB UXTH SXTB SXTH LDR STR LDRB STRB LDRH STRH LDRSB LDRSH LDM STM B BL BX BLX SVC BKPT MRS MSR MCR MRC NOP WFI")

var forms = map[string]int{"": 0, "FormImm": api.FormImm, "FormReg": api.FormReg, "FormRsr": api.FormRsr}

// letters: of all fields.
const letters = "csndmraitkpuwlxyzv"

// line: a row of the table for one operation. places: of each letter, the bits where it stands, the highest first. mask, bits: where its noughts and ones are.
type line struct {
	op, form   int
	name       string
	places     map[byte][]int
	mask, bits uint32
}

// lines: all rows, one for each operation.
var lines = readTable()

func readTable() []*line {
	var all []*line
	ops := ""
	for _, text := range strings.Split(strings.TrimSpace(table), "\n") {
		columns := strings.Split(text, "|")
		if name := strings.TrimSpace(columns[0]); name != "the same" {
			ops = name
		}
		for _, name := range strings.Fields(ops) {
			all = append(all, readLine(name, strings.TrimSpace(columns[1]), strings.ReplaceAll(columns[2], " ", "")))
		}
	}
	return all
}

func readLine(name, form, pattern string) *line {
	l := &line{name: name, form: forms[form], places: map[byte][]int{}}
	for op := range names {
		if names[op] == name {
			l.op = op
		}
	}
	number := l.op - 1 // what oooo says
	if len(pattern) != 32 || l.op == 0 {
		panic(name + " " + pattern)
	}
	for i := range 32 {
		at := 31 - i
		switch letter := pattern[i]; letter {
		case '0', '1':
			l.mask |= 1 << at
			l.bits |= uint32(letter-'0') << at
		case 'o':
			l.mask |= 1 << at
			l.bits |= uint32(number>>(at-21)&1) << at
		default:
			l.places[letter] = append(l.places[letter], at)
		}
	}
	return l
}

func (l *line) has(letter byte) bool { return len(l.places[letter]) > 0 }

// isOneOf: is the operation among those?
func (l *line) isOneOf(ops string) bool { return strings.Contains(" "+ops+" ", " "+l.name+" ") }

func (l *line) fits(w uint32) bool { return w&l.mask == l.bits }

// fieldOf: the number that a letter's bits say in a word.
func (l *line) fieldOf(w uint32, letter byte) int {
	n := 0
	for _, at := range l.places[letter] {
		n = 2*n + int(w>>at&1)
	}
	return n
}

// greatest: the greatest number that a letter's bits can say.
func (l *line) greatest(letter byte) int { return 1<<len(l.places[letter]) - 1 }

// with: a word of the line with that number in a letter's bits.
func (l *line) with(w uint32, letter byte, n int) uint32 {
	for i, at := range l.places[letter] {
		w &^= 1 << at
		w |= uint32(n>>(len(l.places[letter])-1-i)&1) << at
	}
	return w
}

// says: the instruction of the line that a word says, may it be or not.
func (l *line) says(w uint32) api.Ins {
	f := func(letter byte) int { return l.fieldOf(w, letter) }
	i := api.Ins{
		Cond: f('c'), Op: l.op, Form: l.form, S: f('s') == 1,
		Rd: f('d'), Rn: f('n'), Rm: f('m'), Rs: f('r'), Ra: f('a'),
		Imm: uint32(f('i')), Shift: f('t'), Amount: f('k'),
		Pre: f('p') == 1, Up: f('u') == 1, Write: f('w') == 1,
		List:  uint16(f('l')),
		Tuple: api.Tuple{CRn: f('x'), Op1: f('y'), CRm: f('z'), Op2: f('v')},
	}
	if l.isOneOf("TST TEQ CMP CMN") {
		i.S = true
	}
	if l.isOneOf("B BL") {
		n := 4 * f('i')
		if n >= 1<<25 {
			n -= 1 << 26
		}
		i.Imm = uint32(int32(n))
	}
	return i
}

// number: what an instruction says for a letter, as the bits of the letter say it. (A bool is 1 or 0.)
func (l *line) number(i api.Ins, letter byte) int {
	of := func(b bool) int {
		if b {
			return 1
		}
		return 0
	}
	switch letter {
	case 'c':
		return i.Cond
	case 's':
		return of(i.S)
	case 'n':
		return i.Rn
	case 'd':
		return i.Rd
	case 'm':
		return i.Rm
	case 'r':
		return i.Rs
	case 'a':
		return i.Ra
	case 'i':
		return int(i.Imm)
	case 't':
		return i.Shift
	case 'k':
		return i.Amount
	case 'p':
		return of(i.Pre)
	case 'u':
		return of(i.Up)
	case 'w':
		return of(i.Write)
	case 'l':
		return int(i.List)
	case 'x':
		return i.Tuple.CRn
	case 'y':
		return i.Tuple.Op1
	case 'z':
		return i.Tuple.CRm
	case 'v':
		return i.Tuple.Op2
	}
	panic("no letter")
}

// barred: "What may not be", line by line.
func (l *line) barred(i api.Ins) bool {
	isPC := func(some string) bool {
		for _, letter := range []byte(some) {
			if l.has(letter) && l.number(i, letter) == 15 {
				return true
			}
		}
		return false
	}
	holds := func(reg int) bool { return i.List>>reg&1 == 1 }
	if i.Cond == 15 {
		return true
	}
	if l.form == api.FormRsr && isPC("dnmr") {
		return true
	}
	if l.op >= 17 && l.op <= 30 && isPC("dnmra") || l.isOneOf("UMULL UMLAL SMULL SMLAL") && i.Rd == i.Ra {
		return true
	}
	if l.op >= 31 && l.op <= 38 {
		moved := i.Write || !i.Pre
		return i.Write && !i.Pre || moved && i.Rn == 15 || moved && i.Rn == i.Rd || l.form == api.FormReg && i.Rm == 15 || i.Rd == 15 && l.name != "LDR"
	}
	if l.isOneOf("LDM STM") {
		return i.List == 0 || i.Rn == 15 || i.Write && holds(i.Rn) || l.name == "STM" && holds(15)
	}
	if l.isOneOf("BX BLX") && isPC("m") || l.isOneOf("MRS MCR MRC") && isPC("d") {
		return true
	}
	if l.name == "MSR" && (i.Amount == 0 || l.form == api.FormReg && isPC("m")) {
		return true
	}
	return l.name == "BKPT" && i.Cond != 14
}

// decoded: P1901, by the table: the instructions of all lines that the word fits and that may be.
func decoded(w uint32) (all []api.Ins) {
	for _, l := range lines {
		if l.fits(w) {
			if i := l.says(w); !l.barred(i) {
				all = append(all, i)
			}
		}
	}
	return all
}

// lineOf: the line of an instruction; nil, if there is none.
func lineOf(op, form int) *line {
	for _, l := range lines {
		if l.op == op && l.form == form {
			return l
		}
	}
	return nil
}

// encoded: P1902, field by field: the word, and whether the instruction is right.
func encoded(i api.Ins) (uint32, bool) {
	l := lineOf(i.Op, i.Form)
	if l == nil {
		return 0, false
	}
	w := l.bits
	for _, letter := range []byte(letters) {
		n := l.number(i, letter)
		switch {
		case letter == 's' && l.isOneOf("TST TEQ CMP CMN"):
			if !i.S {
				return 0, false
			}
			continue
		case letter == 'i' && l.isOneOf("B BL"):
			reach := int(int32(i.Imm))
			if reach%4 != 0 || reach < -1<<25 || reach > 1<<25-4 {
				return 0, false
			}
			n = reach / 4 & (1<<24 - 1)
		}
		if n < 0 || n > l.greatest(letter) { // of a letter that the row has not that is 0
			return 0, false
		}
		w = l.with(w, letter, n)
	}
	if l.barred(i) {
		return 0, false
	}
	return w, true
}

// bitOf: of a register, where the line has the letter.
func (l *line) bitOf(i api.Ins, some string) (regs uint16) {
	for _, letter := range []byte(some) {
		if l.has(letter) {
			regs |= 1 << l.number(i, letter)
		}
	}
	return regs
}

// reads, writes: P1904, in its own words.
func reads(i api.Ins) uint16 {
	if _, ok := encoded(i); !ok {
		return 0
	}
	l := lineOf(i.Op, i.Form)
	regs := l.bitOf(i, "nmr")
	if l.isOneOf("MLA UMLAL SMLAL") {
		regs |= l.bitOf(i, "a")
	}
	if l.isOneOf("MOVT UMLAL SMLAL STR STRB STRH MCR") {
		regs |= l.bitOf(i, "d")
	}
	if l.isOneOf("STM") {
		regs |= i.List
	}
	return regs
}

func writes(i api.Ins) (regs uint16) {
	if _, ok := encoded(i); !ok {
		return 0
	}
	l := lineOf(i.Op, i.Form)
	if l.op <= 30 && !l.isOneOf("TST TEQ CMP CMN") || l.isOneOf("LDR LDRB LDRH LDRSB LDRSH MRS MRC") {
		regs |= l.bitOf(i, "d")
	}
	if l.isOneOf("UMULL UMLAL SMULL SMLAL") {
		regs |= l.bitOf(i, "a")
	}
	if l.op >= 31 && l.op <= 38 && (i.Write || !i.Pre) || l.isOneOf("LDM STM") && i.Write {
		regs |= l.bitOf(i, "n")
	}
	if l.isOneOf("LDM") {
		regs |= i.List
	}
	if l.isOneOf("BL BLX") {
		regs |= 1 << 14
	}
	if l.isOneOf("B BL BX BLX") {
		regs |= 1 << 15
	}
	return regs
}
