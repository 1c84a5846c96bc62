package asm

import (
	"math/bits"
	"strconv"
	"strings"

	"atlas/api"
	"atlas/words"
)

// tell: the line of a right instruction, at an address.
func tell(i api.Ins, at uint32) string {
	said := shapeOf(i.Op).tell(i, at)
	if len(said) == 0 {
		return mnemonicText(i)
	}
	return mnemonicText(i) + " " + strings.Join(said, ", ")
}

// The operands, by the rows of the chapter's table.

func tellData(i api.Ins, _ uint32) []string {
	return append(registersText(i.Rd, i.Rn), secondText(i)...)
}

func tellCompare(i api.Ins, _ uint32) []string { return append(registersText(i.Rn), secondText(i)...) }
func tellMove(i api.Ins, _ uint32) []string    { return append(registersText(i.Rd), secondText(i)...) }
func tellHalf(i api.Ins, _ uint32) []string    { return append(registersText(i.Rd), hash(i.Imm)) }
func tellProduct(i api.Ins, _ uint32) []string { return registersText(i.Rd, i.Rm, i.Rs) }

func tellProductSum(i api.Ins, _ uint32) []string  { return registersText(i.Rd, i.Rm, i.Rs, i.Ra) }
func tellLongProduct(i api.Ins, _ uint32) []string { return registersText(i.Ra, i.Rd, i.Rm, i.Rs) }
func tellPair(i api.Ins, _ uint32) []string        { return registersText(i.Rd, i.Rm) }

func tellExtend(i api.Ins, at uint32) []string {
	said := tellPair(i, at)
	if i.Amount == 0 {
		return said
	}
	return append(said, shifts()[api.ShROR].name+" "+hash(8*i.Amount))
}

func tellOne(i api.Ins, _ uint32) []string {
	base := registerNames()[i.Rn]
	if i.Form == api.FormImm && i.Imm == 0 && i.Pre && i.Up && !i.Write {
		return append(registersText(i.Rd), "["+base+"]")
	}
	offset := strings.Join(offsetText(i), ", ")
	if !i.Pre {
		return append(registersText(i.Rd), "["+base+"]", offset)
	}
	return append(registersText(i.Rd), "["+base+", "+offset+"]"+pick(i.Write, "!", ""))
}

func tellMany(i api.Ins, _ uint32) []string {
	return []string{registerNames()[i.Rn] + pick(i.Write, "!", ""), listText(i.List)}
}

func tellBranch(i api.Ins, at uint32) []string {
	return []string{words.Hex(uint64(at + pcAhead + i.Imm))}
}

func tellJump(i api.Ins, _ uint32) []string { return registersText(i.Rm) }
func tellCall(i api.Ins, _ uint32) []string { return []string{hash(i.Imm)} }

func tellReadStatus(i api.Ins, _ uint32) []string {
	return append(registersText(i.Rd), statusText(i.S))
}

func tellWriteStatus(i api.Ins, _ uint32) []string {
	mask := statusText(i.S) + "_" + maskText(i.Amount)
	if i.Form == api.FormReg { // its Amount is the mask, no shift
		return []string{mask, registerNames()[i.Rm]}
	}
	return append([]string{mask}, immediateText(i.Imm)...)
}

func tellCoprocessor(i api.Ins, _ uint32) []string {
	t := i.Tuple
	return []string{"p15", hash(t.Op1), registerNames()[i.Rd], numbered('c', t.CRn), numbered('c', t.CRm), hash(t.Op2)}
}

func tellNothing(api.Ins, uint32) []string { return nil }

// hash: a number behind a # .
func hash[T int | uint32](n T) string { return "#" + decimal(n) }

func decimal[T int | uint32](n T) string { return strconv.FormatInt(int64(n), 10) }

func registersText(regs ...int) []string {
	var said []string
	for _, reg := range regs {
		said = append(said, registerNames()[reg])
	}
	return said
}

// secondText: OP2.
func secondText(i api.Ins) []string {
	switch i.Form {
	case api.FormImm:
		return immediateText(i.Imm)
	case api.FormRsr:
		return []string{registerNames()[i.Rm], shifts()[i.Shift].name + " " + registerNames()[i.Rs]}
	}
	return append(registersText(i.Rm), shiftText(i)...)
}

// immediateText: the word that twelve bits say, if they are those that the word gives; else the two numbers that they are.
func immediateText(imm uint32) []string {
	w := unpack(imm)
	if same, _ := pack(w); same == imm {
		return []string{hash(w)}
	}
	return []string{hash(imm & 255), decimal(imm >> 8 * 2)}
}

// shiftText: how Rm is shifted by a number, if it is.
func shiftText(i api.Ins) []string {
	if i.Amount > 0 {
		return []string{shifts()[i.Shift].name + " " + hash(i.Amount)}
	}
	switch i.Shift {
	case api.ShLSL:
		return nil
	case api.ShROR:
		return []string{rrx}
	}
	return []string{shifts()[i.Shift].name + " #32"}
}

// offsetText: of an address.
func offsetText(i api.Ins) []string {
	minus := pick(i.Up, "", "-")
	if i.Form == api.FormImm {
		return []string{"#" + minus + decimal(i.Imm)}
	}
	return append([]string{minus + registerNames()[i.Rm]}, shiftText(i)...)
}

// listText: the registers of a list, three or more in a row as the first - the last.
func listText(list uint16) string {
	var said []string
	for rest := uint(list); rest != 0; {
		first := bits.TrailingZeros(rest)
		row := bits.TrailingZeros(^(rest >> first))
		if row < 3 {
			row = 1
			said = append(said, registerNames()[first])
		} else {
			said = append(said, registerNames()[first]+"-"+registerNames()[first+row-1])
		}
		rest &^= (1<<row - 1) << first
	}
	return "{" + strings.Join(said, ", ") + "}"
}
