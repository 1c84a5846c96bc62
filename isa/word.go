package isa

import (
	"math/bits"

	"atlas/api"
)

// condAt: the lowest bit of Cond, in every word.
const condAt = 28

// reachBits: of the Imm of B and BL, its sign the highest of them.
const reachBits = 26

// read: what a word of that row says.
func read(r row, w uint32) api.Ins {
	i := api.Ins{Cond: int(w >> condAt), Op: int(r.op), Form: int(r.form)}
	parts := places()
	for left := r.parts; left != 0; left &= left - 1 {
		p := parts[bits.TrailingZeros32(left)]
		put(&i, p.field, w>>p.at&(1<<p.wide-1)<<p.from)
	}
	if r.has(partReach) {
		i.Imm = uint32(int32(i.Imm<<(32-reachBits)) >> (32 - reachBits))
	}
	return i
}

// lay: the word of that row that says the instruction, if the row has room for it all; else a word that says another, or none.
func lay(r row, i api.Ins) uint32 {
	w := r.bits | uint32(i.Cond)<<condAt
	parts := places()
	for left := r.parts; left != 0; left &= left - 1 {
		p := parts[bits.TrailingZeros32(left)]
		w |= value(i, p.field) >> p.from & (1<<p.wide - 1) << p.at
	}
	return w
}

// put: bits of a field, into an instruction; pieces of Imm come one by one.
func put(i *api.Ins, field uint8, v uint32) {
	switch field {
	case fieldOp:
		i.Op = int(v) + 1
	case fieldS:
		i.S = v == 1
	case fieldRd:
		i.Rd = int(v)
	case fieldRn:
		i.Rn = int(v)
	case fieldRm:
		i.Rm = int(v)
	case fieldRs:
		i.Rs = int(v)
	case fieldRa:
		i.Ra = int(v)
	case fieldImm:
		i.Imm |= v
	case fieldShift:
		i.Shift = int(v)
	case fieldAmount:
		i.Amount = int(v)
	case fieldPre:
		i.Pre = v == 1
	case fieldUp:
		i.Up = v == 1
	case fieldWrite:
		i.Write = v == 1
	case fieldList:
		i.List = uint16(v)
	case fieldCRn:
		i.Tuple.CRn = int(v)
	case fieldOp1:
		i.Tuple.Op1 = int(v)
	case fieldCRm:
		i.Tuple.CRm = int(v)
	case fieldOp2:
		i.Tuple.Op2 = int(v)
	}
}

// value: a field of an instruction, as bits.
func value(i api.Ins, field uint8) uint32 {
	switch field {
	case fieldOp:
		return uint32(i.Op - 1)
	case fieldS:
		return bit(i.S)
	case fieldRd:
		return uint32(i.Rd)
	case fieldRn:
		return uint32(i.Rn)
	case fieldRm:
		return uint32(i.Rm)
	case fieldRs:
		return uint32(i.Rs)
	case fieldRa:
		return uint32(i.Ra)
	case fieldImm:
		return i.Imm
	case fieldShift:
		return uint32(i.Shift)
	case fieldAmount:
		return uint32(i.Amount)
	case fieldPre:
		return bit(i.Pre)
	case fieldUp:
		return bit(i.Up)
	case fieldWrite:
		return bit(i.Write)
	case fieldList:
		return uint32(i.List)
	case fieldCRn:
		return uint32(i.Tuple.CRn)
	case fieldOp1:
		return uint32(i.Tuple.Op1)
	case fieldCRm:
		return uint32(i.Tuple.CRm)
	}
	return uint32(i.Tuple.Op2)
}

// bit: a bool as a number.
func bit(on bool) uint32 {
	if on {
		return 1
	}
	return 0
}
