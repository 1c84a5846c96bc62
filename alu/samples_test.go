package alu_test

import (
	"math"
	"math/rand"

	"atlas/api"
)

// wild: numbers that are no condition, kind, operation or product; those just outside each row stand in the tests.
var wild = []int{math.MinInt, math.MinInt + 1, -1 << 32, math.MinInt32, -257, -256, -33, -32, -17, -16, -15, -14, -4, -3, -2, -1, 53, 63, 64, 127, 128, 255, 256, 257, 1 << 16, math.MaxInt32, 1 << 31, 1 << 32, 1<<32 + 1, 1<<32 + 4, 1<<32 + 14, 1<<32 + 25, math.MaxInt - 1, math.MaxInt}

// edges: words at the ends of both ranges, and odd ones between them.
var edges = []uint32{0, 1, 2, 3, 5, 0x7F, 0x80, 0xFF, 0x100, 0x7FFF, 0x8000, 0xFFFF, 0x10000, 0x12345678, 0x3FFFFFFF, 0x40000000, 0x55555555, 0x7FFFFFFE, 0x7FFFFFFF, 0x80000000, 0x80000001, 0x9ABCDEF0, 0xAAAAAAAA, 0xC0000000, 0xFFFF0000, 0xFFFF7FFF, 0xFFFF8000, 0xFFFFFF7F, 0xFFFFFF80, 0xFFFFFFFE, 0xFFFFFFFF}

var bools = []bool{false, true}

// allFlags: the sixteen, by 8 * N + 4 * Z + 2 * C + V.
func allFlags() []api.Flags {
	var all []api.Flags
	for i := range 16 {
		all = append(all, api.Flags{N: i&8 == 8, Z: i&4 == 4, C: i&2 == 2, V: i&1 == 1})
	}
	return all
}

// words: the edges, and as many others.
func words(seed int64, others int) []uint32 {
	r := rand.New(rand.NewSource(seed))
	all := append([]uint32{}, edges...)
	for range others {
		all = append(all, r.Uint32())
	}
	return all
}

// outside: the wild numbers, and those within 40 of the row from first to last, as far as they are outside it.
func outside(first, last int) []int {
	var all []int
	for _, n := range wild {
		if n < first || n > last {
			all = append(all, n)
		}
	}
	for d := 1; d <= 40; d++ {
		all = append(all, first-d, last+d)
	}
	return all
}
