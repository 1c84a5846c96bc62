package alu

import (
	"math/bits"

	"atlas/api"
)

// lastTurn: the part of a number that says by how many bytes a word is turned.
const lastTurn = 3

// Long: a product (F18.7).
func Long(op int, rm, rs, high, low uint32) (uint32, uint32, bool) {
	plain := uint64(rm) * uint64(rs)
	withSign := uint64(int64(int32(rm)) * int64(int32(rs)))
	added := uint64(high)<<wordBits | uint64(low)
	switch op {
	case api.OpMUL:
		return 0, rm * rs, true
	case api.OpMLA:
		return 0, rm*rs + low, true
	case api.OpUMULL:
		return halves(plain)
	case api.OpUMLAL:
		return halves(plain + added)
	case api.OpSMULL:
		return halves(withSign)
	case api.OpSMLAL:
		return halves(withSign + added)
	}
	return 0, 0, false
}

// halves: the two words of a number, the high one first, as Long answers them.
func halves(x uint64) (uint32, uint32, bool) { return uint32(x >> wordBits), uint32(x), true }

// Small: of one word (F18.8).
func Small(op int, x uint32, turn int) (uint32, bool) {
	turned := bits.RotateLeft32(x, -byteBits*(turn&lastTurn))
	switch op {
	case api.OpCLZ:
		return uint32(bits.LeadingZeros32(x)), true
	case api.OpREV:
		return bits.ReverseBytes32(x), true
	case api.OpUXTB:
		return uint32(uint8(turned)), true
	case api.OpUXTH:
		return uint32(uint16(turned)), true
	case api.OpSXTB:
		return uint32(int8(turned)), true
	case api.OpSXTH:
		return uint32(int16(turned)), true
	}
	return 0, false
}
