package asm

import (
	"math/bits"

	"atlas/api"
)

// The greatest offsets: of plain loads and stores, and of the others.
const (
	maxOffset      = 4095
	maxShortOffset = 255
)

// The bounds of what b and bl can reach.
const (
	reachLo = -1 << 25
	reachHi = 1<<25 - 4
)

// pcAhead: how far ahead of an instruction the PC is, as that reads it.
const pcAhead = 8

// bounded: what a number says that is the field itself, from lo to hi.
func bounded[T int | uint32](field *T, lo, hi int64) func(int64) bool {
	return func(n int64) bool {
		if n < lo || n > hi {
			return false
		}
		*field = T(n)
		return true
	}
}

// asWord: a number from -2^31 to 2^32 - 1, as a word.
func asWord(n int64) (uint32, bool) { return uint32(n), n >= -1<<31 && n < 1<<32 }

// pack: the twelve bits that say a word, with the least turn for which there are any.
func pack(w uint32) (uint32, bool) {
	for k := range 16 {
		if low := bits.RotateLeft32(w, 2*k); low < 256 {
			return uint32(k)<<8 | low, true
		}
	}
	return 0, false
}

// unpack: the word that twelve bits say.
func unpack(imm uint32) uint32 { return bits.RotateLeft32(imm&255, -2*int(imm>>8)) }

// constant: a number that twelve bits say.
func (d *draft) constant(n int64) bool {
	w, ok := asWord(n)
	if !ok {
		return false
	}
	d.ins.Imm, ok = pack(w)
	return ok
}

// turned: by how many bits the number ahead of it is turned right.
func (d *draft) turned(n int64) bool {
	if n < 0 || n > 30 || n%2 != 0 {
		return false
	}
	d.ins.Imm |= uint32(n) << 7
	return true
}

// turnByBytes: by how many bits Rm is turned right.
func (d *draft) turnByBytes(n int64) bool {
	d.ins.Amount = int(n / 8)
	return n == 8 || n == 16 || n == 24
}

// shiftedBy: by how many bits Rm is shifted; 32 stands in an instruction as 0.
func (d *draft) shiftedBy(n int64) bool {
	s := shifts()[d.ins.Shift]
	d.ins.Amount = int(n % 32)
	return n >= s.lo && n <= s.hi
}

// offsetBy: how far, and to which side, an address is from its register.
func (d *draft) offsetBy(n int64, up bool) bool {
	amount, most := max(n, -n), int64(maxOffset)
	if !isPlain(d.ins.Op) {
		most = maxShortOffset
	}
	d.ins.Up, d.ins.Imm = up, uint32(amount)
	return amount <= most
}

// fromPC: how far an address is from the PC, as a signed word.
func (d *draft) fromPC(n int64) (int64, bool) {
	w, ok := asWord(n)
	return int64(int32(w - (d.at + pcAhead))), ok
}

// branchTo: the address to go to.
func (d *draft) branchTo(n int64) bool {
	far, ok := d.fromPC(n)
	d.ins.Imm = uint32(far)
	return ok && far%wordBytes == 0 && far >= reachLo && far <= reachHi
}

// offsetFromPC: the address of what is loaded or stored.
func (d *draft) offsetFromPC(n int64) bool {
	far, ok := d.fromPC(n)
	return ok && d.offsetBy(far, far >= 0)
}

// sumWithPC: the address that a register gets; it is told as a sum, or as a difference where it lies below.
func (d *draft) sumWithPC(n int64) bool {
	far, ok := d.fromPC(n)
	if far < 0 {
		d.ins.Op = api.OpSUB
	}
	return ok && d.constant(max(far, -far))
}
