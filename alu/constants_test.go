package alu_test

import (
	"math"
	"testing"

	"atlas/alu"
	"atlas/api"
)

// turnedByte: the word of a byte that is turned right by two bits, that often, one bit at a time.
func turnedByte(b uint32, often int) uint32 {
	for range 2 * often {
		b = b/2 + b%2*(1<<31)
	}
	return b
}

// constants: each word that twelve bits say, with the least of these that do.
func constants() map[uint32]uint32 {
	all := map[uint32]uint32{}
	for r := 15; r >= 0; r-- {
		for b := range uint32(256) {
			all[turnedByte(b, r)] = uint32(r)*256 + b
		}
	}
	return all
}

func TestConstantExamples(t *testing.T) {
	for _, c := range []struct {
		imm   uint32
		carry bool
		want  uint32
		out   bool
	}{
		{0x4FF, false, 0xFF000000, true},
		{0x0FF, true, 0xFF, true},
		{0x0FF, false, 0xFF, false},
		{0x000, true, 0, true},
		{0x100, true, 0, false},
		{0x101, true, 0x40000000, false},
		{0x102, false, 0x80000000, true},
		{0x2FF, false, 0xF000000F, true},
		{0xFFF, true, 0x3FC, false},
		{0xABCDE4FF, false, 0xFF000000, true},
		{0xFFFFF0AB, true, 0xAB, true},
	} {
		if w, out := alu.Expand(c.imm, c.carry); w != c.want || out != c.out {
			t.Errorf("Expand(%#x, %v) = %#x, %v", c.imm, c.carry, w, out)
		}
	}
	for _, c := range []struct {
		x, want uint32
		ok      bool
	}{
		{0xFF000000, 0x4FF, true},
		{0x101, 0, false},
		{0x3FC, 0xFFF, true},
		{0, 0, true},
		{1, 1, true},
		{0xFF, 0xFF, true},
		{0x100, 0xC01, true}, // and 0xD04, 0xE10, 0xF40
		{0x1FE, 0, false},    // a turn by an odd number would
		{0xF000000F, 0x2FF, true},
		{0xC0000001, 0x107, true}, // across the end
		{0x80000000, 0x102, true},
		{0xFFFFFFFF, 0, false},
		{0x80000001, 0x106, true},
		{0x40000001, 0x105, true},
		{0x20000001, 0x212, true},
	} {
		if p, ok := alu.Pack(c.x); p != c.want || ok != c.ok {
			t.Errorf("Pack(%#x) = %#x, %v, want %#x, %v", c.x, p, ok, c.want, c.ok)
		}
	}
}

// F18.4: all twelve bits, with both carries, whatever stands above them.
func TestExpandOfAll(t *testing.T) {
	for imm := range uint32(4096) {
		r, b := int(imm/256), imm%256
		want := turnedByte(b, r)
		for _, above := range []uint32{0, 0x1000, 0x8000, 0xF000, 0x12345000, 0xFFFFF000} {
			for _, carry := range bools {
				out := want >= 1<<31
				if r == 0 {
					out = carry
				}
				if w, c := alu.Expand(above+imm, carry); w != want || c != out {
					t.Fatalf("Expand(%#x, %v) = %#x, %v, want %#x, %v", above+imm, carry, w, c, want, out)
				}
			}
		}
	}
}

// P1804: of each word that twelve bits say, Pack tells the least that do, and Expand makes the word again.
func TestPackOfConstants(t *testing.T) {
	for x, least := range constants() {
		p, ok := alu.Pack(x)
		if !ok || p != least {
			t.Fatalf("Pack(%#x) = %#x, %v, want %#x", x, p, ok, least)
		}
		if w, _ := alu.Expand(p, true); w != x {
			t.Fatalf("Expand(Pack(%#x)) = %#x", x, w)
		}
		for r := range p / 256 {
			for b := range uint32(256) {
				if w, _ := alu.Expand(r*256+b, false); w == x {
					t.Fatalf("Pack(%#x) = %#x, but %#x is lesser", x, p, r*256+b)
				}
			}
		}
	}
}

// P1804: Pack answers false just for the words that no twelve bits say.
func TestPackOfAnyWord(t *testing.T) {
	known := constants()
	var all []uint32
	for x := range known { // the order tells nothing: each is asked by itself
		all = append(all, x, x-1, x+1, x<<1, x>>1, ^x, x^0x100, x|0x80000001)
	}
	for x := range uint32(0x2000) {
		all = append(all, x, x<<19, math.MaxUint32-x)
	}
	all = append(all, words(6, 20000)...)
	for _, x := range all {
		least, can := known[x]
		if p, ok := alu.Pack(x); p != least || ok != can {
			t.Fatalf("Pack(%#x) = %#x, %v, want %#x, %v", x, p, ok, least, can)
		}
	}
}

// F18.4 by F18.2: a constant is a byte that is turned as ShROR turns it.
func TestExpandIsATurn(t *testing.T) {
	for imm := range uint32(4096) {
		for _, carry := range bools {
			want, out := alu.Shift(api.ShROR, imm&255, 2*int(imm>>8), carry)
			if w, c := alu.Expand(imm, carry); w != want || c != out {
				t.Fatalf("Expand(%#x, %v) = %#x, %v, want %#x, %v", imm, carry, w, c, want, out)
			}
		}
	}
}
