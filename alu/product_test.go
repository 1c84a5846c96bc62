package alu_test

import (
	"math/big"
	"math/rand"
	"testing"

	"atlas/alu"
	"atlas/api"
)

// longModel: F18.7, in numbers without an end.
func longModel(op int, rm, rs, high, low uint32) (uint32, uint32, bool) {
	product := func(of func(uint32) *big.Int) *big.Int { return new(big.Int).Mul(of(rm), of(rs)) }
	added := new(big.Int).Add(new(big.Int).Mul(whole(high), two32()), whole(low))
	var n *big.Int
	switch op {
	case api.OpMUL:
		return 0, lowWord(product(whole)), true
	case api.OpMLA:
		return 0, lowWord(new(big.Int).Add(product(whole), whole(low))), true
	case api.OpUMULL:
		n = product(whole)
	case api.OpSMULL:
		n = product(withSign)
	case api.OpUMLAL:
		n = new(big.Int).Add(product(whole), added)
	case api.OpSMLAL:
		n = new(big.Int).Add(product(withSign), added)
	default:
		return 0, 0, false
	}
	n.Mod(n, new(big.Int).Mul(two32(), two32()))
	return lowWord(new(big.Int).Div(n, two32())), lowWord(n), true
}

func checkLong(t *testing.T, op int, rm, rs, high, low uint32) {
	t.Helper()
	wantHigh, wantLow, wantOk := longModel(op, rm, rs, high, low)
	if h, l, ok := alu.Long(op, rm, rs, high, low); h != wantHigh || l != wantLow || ok != wantOk {
		t.Errorf("Long(%d, %#x, %#x, %#x, %#x) = %#x, %#x, %v, want %#x, %#x, %v", op, rm, rs, high, low, h, l, ok, wantHigh, wantLow, wantOk)
	}
}

// F18.7: the chapter's examples, and the ends of both ranges, told by hand.
func TestLongExamples(t *testing.T) {
	const top, low31 = 0x80000000, 0x7FFFFFFF
	const all = 0xFFFFFFFF
	for _, c := range []struct {
		op                int
		rm, rs, high, low uint32
		h, l              uint32
	}{
		{api.OpSMULL, all, 2, 0, 0, all, 0xFFFFFFFE},
		{api.OpUMLAL, all, 2, 0, 2, 2, 0},

		{api.OpMUL, all, all, 5, 6, 0, 1},
		{api.OpMUL, top, 2, 5, 6, 0, 0},
		{api.OpMLA, all, all, 5, all, 0, 0},
		{api.OpMLA, 3, 4, 5, 6, 0, 18},
		{api.OpUMULL, all, all, 5, 6, 0xFFFFFFFE, 1},
		{api.OpUMULL, top, top, 5, 6, 0x40000000, 0},
		{api.OpSMULL, all, all, 5, 6, 0, 1},
		{api.OpSMULL, top, top, 5, 6, 0x40000000, 0},
		{api.OpSMULL, top, low31, 5, 6, 0xC0000000, top},
		{api.OpSMULL, low31, low31, 0, 0, 0x3FFFFFFF, 1},
		{api.OpSMULL, 0, all, 5, 6, 0, 0},
		{api.OpUMLAL, all, all, all, all, 0xFFFFFFFE, 0}, // wraps
		{api.OpUMLAL, all, all, 0, 0xFFFFFFFE, 0xFFFFFFFE, all},
		{api.OpUMLAL, 1, 1, all, all, 0, 0},
		{api.OpSMLAL, 1, 1, all, all, 0, 0},
		{api.OpSMLAL, all, 1, 0, 0, all, all},
		{api.OpSMLAL, all, 1, 0, 1, 0, 0},
		{api.OpSMLAL, all, 1, top, 0, low31, all},
		{api.OpSMLAL, 1, 1, low31, all, top, 0},
	} {
		if h, l, ok := alu.Long(c.op, c.rm, c.rs, c.high, c.low); h != c.h || l != c.l || !ok {
			t.Errorf("Long(%d, %#x, %#x, %#x, %#x) = %#x, %#x, %v, want %#x, %#x", c.op, c.rm, c.rs, c.high, c.low, h, l, ok, c.h, c.l)
		}
	}
}

// F18.7: all six, of any words.
func TestLongIsTheWholeProduct(t *testing.T) {
	r := rand.New(rand.NewSource(16))
	all := words(17, 100)
	pick := func() uint32 { return all[r.Intn(len(all))] }
	for op := api.OpMUL; op <= api.OpSMLAL; op++ {
		for _, rm := range edges {
			for _, rs := range edges {
				checkLong(t, op, rm, rs, 0, 0)
				checkLong(t, op, rm, rs, 0xFFFFFFFF, 0xFFFFFFFF)
				checkLong(t, op, rm, rs, pick(), pick())
			}
		}
		for range 2000 {
			checkLong(t, op, pick(), pick(), pick(), pick())
		}
	}
}

// F18.7: numbers that are no product.
func TestLongOfNoProduct(t *testing.T) {
	for _, op := range outside(api.OpMUL, api.OpSMLAL) {
		if h, l, ok := alu.Long(op, 0xFFFFFFFF, 3, 4, 5); h != 0 || l != 0 || ok {
			t.Errorf("Long(%d, ..) = %#x, %#x, %v", op, h, l, ok)
		}
	}
}

// P1805: the product with sign by the one without.
func TestProducts(t *testing.T) {
	all := words(18, 60)
	for _, rm := range all {
		for _, rs := range all {
			high, low, _ := alu.Long(api.OpUMULL, rm, rs, 1, 2)
			if rm >= 1<<31 {
				high -= rs
			}
			if rs >= 1<<31 {
				high -= rm
			}
			if h, l, ok := alu.Long(api.OpSMULL, rm, rs, 3, 4); h != high || l != low || !ok {
				t.Fatalf("OpSMULL of %#x, %#x = %#x, %#x, %v, want %#x, %#x", rm, rs, h, l, ok, high, low)
			}
		}
	}
}

// smallModel: F18.8, on the bytes of the word, the lowest first.
func smallModel(op int, x uint32, turn int) (uint32, bool) {
	bytes := [4]uint32{x % 256, x / 256 % 256, x / 65536 % 256, x / 16777216}
	at := func(i int) uint32 { return bytes[(i+turn%4+4)%4] }
	half := at(0) + 256*at(1)
	switch op {
	case api.OpCLZ:
		n := uint32(32)
		for ; x > 0; x /= 2 {
			n--
		}
		return n, true
	case api.OpREV:
		return bytes[0]*16777216 + bytes[1]*65536 + bytes[2]*256 + bytes[3], true
	case api.OpUXTB:
		return at(0), true
	case api.OpUXTH:
		return half, true
	case api.OpSXTB:
		if at(0) >= 128 {
			return 0xFFFFFF00 + at(0), true
		}
		return at(0), true
	case api.OpSXTH:
		if half >= 32768 {
			return 0xFFFF0000 + half, true
		}
		return half, true
	}
	return 0, false
}

// F18.8: the chapter's examples, and others, told by hand.
func TestSmallExamples(t *testing.T) {
	for _, c := range []struct {
		op   int
		x    uint32
		turn int
		want uint32
	}{
		{api.OpCLZ, 1, 0, 31},
		{api.OpREV, 0x11223344, 0, 0x44332211},
		{api.OpSXTB, 0x8000, 1, 0xFFFFFF80},

		{api.OpCLZ, 0, 0, 32},
		{api.OpCLZ, 0xFFFFFFFF, 3, 0},
		{api.OpCLZ, 0x00FF0000, 2, 8},
		{api.OpREV, 0, 1, 0},
		{api.OpREV, 0x800000FF, 1, 0xFF000080},
		{api.OpUXTB, 0x112233FF, 0, 0xFF},
		{api.OpUXTB, 0x11223344, 3, 0x11},
		{api.OpUXTB, 0x11223344, 4, 0x44},
		{api.OpUXTB, 0x11223344, -1, 0x11},
		{api.OpUXTH, 0xFFFF8000, 0, 0x8000},
		{api.OpUXTH, 0x11223344, 3, 0x4411}, // across the end
		{api.OpUXTH, 0x11223344, -2, 0x1122},
		{api.OpSXTB, 0x7F, 0, 0x7F},
		{api.OpSXTB, 0x80, 0, 0xFFFFFF80},
		{api.OpSXTB, 0x7F80, 5, 0x7F},
		{api.OpSXTH, 0x7FFF, 0, 0x7FFF},
		{api.OpSXTH, 0x8000, 0, 0xFFFF8000},
		{api.OpSXTH, 0x11223384, 3, 0xFFFF8411},
		{api.OpSXTH, 0, 2, 0},
	} {
		if w, ok := alu.Small(c.op, c.x, c.turn); w != c.want || !ok {
			t.Errorf("Small(%d, %#x, %d) = %#x, %v, want %#x", c.op, c.x, c.turn, w, ok, c.want)
		}
	}
}

// F18.8: all six, of any words, with any turn.
func TestSmallIsOfItsBytes(t *testing.T) {
	turns := append([]int{0, 1, 2, 3, 4, 5, 6, 7, 8}, wild...)
	all := words(19, 200)
	for i := range 32 {
		all = append(all, 1<<i, 1<<i-1)
	}
	for op := api.OpCLZ; op <= api.OpSXTH; op++ {
		for _, x := range all {
			for _, turn := range turns {
				want, wantOk := smallModel(op, x, turn)
				if w, ok := alu.Small(op, x, turn); w != want || ok != wantOk {
					t.Fatalf("Small(%d, %#x, %d) = %#x, %v, want %#x, %v", op, x, turn, w, ok, want, wantOk)
				}
			}
		}
	}
}

// F18.8: numbers that are none of the small ones.
func TestSmallOfNone(t *testing.T) {
	for _, op := range outside(api.OpCLZ, api.OpSXTH) {
		for turn := -1; turn <= 4; turn++ {
			if w, ok := alu.Small(op, 0xFFFFFFFF, turn); w != 0 || ok {
				t.Errorf("Small(%d, .., %d) = %#x, %v", op, turn, w, ok)
			}
		}
	}
}
