package alu

import (
	"math/bits"

	"atlas/api"
)

// wordBits: of a word.
const wordBits = 32

// farthest: the part of a register that says how far a shift goes.
const farthest = 255

// A constant of twelve bits: a byte, and above it how often it is turned right by two.
const (
	byteBits  = 8
	byteMask  = 1<<byteBits - 1
	turnsEnd  = 16
	turnWidth = 2
)

// Shift: a word shifted, and the carry (F18.2).
func Shift(kind int, x uint32, n int, carry bool) (uint32, bool) {
	if kind == api.ShRRX {
		return x>>1 | bit(carry)<<signBit, isSet(x, 0)
	}
	n &= farthest
	if n == 0 {
		return x, carry
	}
	switch kind {
	case api.ShLSL:
		return left(x, n)
	case api.ShLSR:
		return right(x, n)
	case api.ShASR:
		return rightSigned(x, n)
	case api.ShROR:
		w := bits.RotateLeft32(x, -n)
		return w, isSet(w, signBit)
	}
	return x, carry
}

// left: x shifted left by n, from 1 on, and the last bit that fell out.
func left(x uint32, n int) (uint32, bool) {
	return x << n, n <= wordBits && isSet(x, wordBits-n)
}

// right: x shifted right by n, from 1 on, and the last bit that fell out.
func right(x uint32, n int) (uint32, bool) {
	return x >> n, n <= wordBits && isSet(x, n-1)
}

// rightSigned: x shifted right by n, from 1 on, with its highest bit coming in, and the last bit that fell out: beyond the word that is the highest one too.
func rightSigned(x uint32, n int) (uint32, bool) {
	return uint32(int32(x) >> n), isSet(x, min(n-1, signBit))
}

// Decode: how a shift by a constant is meant (F18.3).
func Decode(kind, n int) (int, int) {
	if n < 0 || n >= wordBits {
		return api.ShLSL, 0
	}
	switch {
	case kind < api.ShLSL || kind > api.ShROR:
		return api.ShLSL, 0
	case n > 0 || kind == api.ShLSL:
		return kind, n
	case kind == api.ShROR:
		return api.ShRRX, 1
	}
	// Shifts right by nothing are said as shifts left by nothing, so that 0 is free to say a whole word.
	return kind, wordBits
}

// Expand: a constant of twelve bits (F18.4).
func Expand(imm uint32, carry bool) (uint32, bool) {
	turns := (imm >> byteBits) % turnsEnd
	return Shift(api.ShROR, imm&byteMask, int(turns*turnWidth), carry)
}

// Pack: the twelve bits of a constant (F18.4).
func Pack(x uint32) (uint32, bool) {
	for turns := uint32(0); turns < turnsEnd; turns++ {
		// Turned back, to the left, the word must be a byte again.
		if b := bits.RotateLeft32(x, int(turns*turnWidth)); b <= byteMask {
			return turns<<byteBits | b, true
		}
	}
	return 0, false
}
