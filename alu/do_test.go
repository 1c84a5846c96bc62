package alu_test

import (
	"math/big"
	"math/rand"
	"testing"

	"atlas/alu"
	"atlas/api"
)

// whole: a word as a number without sign; withSign: as one with sign.
func whole(x uint32) *big.Int { return new(big.Int).SetUint64(uint64(x)) }

func withSign(x uint32) *big.Int {
	n := whole(x)
	if x >= 1<<31 {
		n.Sub(n, two32())
	}
	return n
}

func two32() *big.Int { return new(big.Int).Lsh(big.NewInt(1), 32) }

// lowWord: of a number that is not below 0.
func lowWord(n *big.Int) uint32 {
	return uint32(new(big.Int).Mod(n, two32()).Uint64())
}

// sumModel: F18.5, in numbers without an end.
func sumModel(x, y uint32, carry bool) (uint32, api.Flags) {
	one := big.NewInt(0)
	if carry {
		one.SetInt64(1)
	}
	add := func(a, b *big.Int) *big.Int { return new(big.Int).Add(new(big.Int).Add(a, b), one) }
	plain, signed := add(whole(x), whole(y)), add(withSign(x), withSign(y))
	w := lowWord(plain)
	return w, api.Flags{
		N: withSign(w).Sign() < 0,
		Z: w == 0,
		C: plain.Cmp(two32()) >= 0,
		V: signed.Cmp(withSign(w)) != 0,
	}
}

func checkSum(t *testing.T, x, y uint32, carry bool) {
	t.Helper()
	want, flags := sumModel(x, y, carry)
	if w, f := alu.Sum(x, y, carry); w != want || f != flags {
		t.Errorf("Sum(%#x, %#x, %v) = %#x, %+v, want %#x, %+v", x, y, carry, w, f, want, flags)
	}
}

// F18.5: sums at the ends of both ranges, told by hand.
func TestSumExamples(t *testing.T) {
	for _, c := range []struct {
		x, y  uint32
		carry bool
		want  uint32
		f     api.Flags
	}{
		{0x7FFFFFFF, 1, false, 0x80000000, api.Flags{N: true, V: true}},
		{0x7FFFFFFF, 0, true, 0x80000000, api.Flags{N: true, V: true}},
		{0x7FFFFFFF, 0, false, 0x7FFFFFFF, api.Flags{}},
		{0x80000000, 0xFFFFFFFF, false, 0x7FFFFFFF, api.Flags{C: true, V: true}},
		{0x80000000, 0xFFFFFFFF, true, 0x80000000, api.Flags{N: true, C: true}},
		{0x80000000, 0x80000000, false, 0, api.Flags{Z: true, C: true, V: true}},
		{0x80000000, 0x7FFFFFFF, false, 0xFFFFFFFF, api.Flags{N: true}},
		{0x80000000, 0x7FFFFFFF, true, 0, api.Flags{Z: true, C: true}},
		{0xFFFFFFFF, 0, true, 0, api.Flags{Z: true, C: true}},
		{0xFFFFFFFF, 1, false, 0, api.Flags{Z: true, C: true}},
		{0xFFFFFFFF, 0xFFFFFFFF, false, 0xFFFFFFFE, api.Flags{N: true, C: true}},
		{0xFFFFFFFF, 0xFFFFFFFF, true, 0xFFFFFFFF, api.Flags{N: true, C: true}},
		{0x7FFFFFFF, 0x7FFFFFFF, true, 0xFFFFFFFF, api.Flags{N: true, V: true}},
		{0, 0, false, 0, api.Flags{Z: true}},
		{0, 0, true, 1, api.Flags{}},
	} {
		if w, f := alu.Sum(c.x, c.y, c.carry); w != c.want || f != c.f {
			t.Errorf("Sum(%#x, %#x, %v) = %#x, %+v", c.x, c.y, c.carry, w, f)
		}
	}
}

// F18.5: any sums.
func TestSumIsTheWholeSum(t *testing.T) {
	all := words(7, 60)
	for _, x := range all {
		for _, y := range all {
			for _, carry := range bools {
				checkSum(t, x, y, carry)
			}
		}
		checkSum(t, x, -x, false)
		checkSum(t, x, ^x, true)
		checkSum(t, x, 0x7FFFFFFF-x, true)
		checkSum(t, x, 0x80000000-x, false)
	}
}

// bitByBit: the word of an operation without a carry, and whether op is one.
func bitByBit(op int, a, b uint32) (uint32, bool) {
	var rule func(x, y bool) bool
	switch op {
	case api.OpAND, api.OpTST:
		rule = func(x, y bool) bool { return x && y }
	case api.OpEOR, api.OpTEQ:
		rule = func(x, y bool) bool { return x != y }
	case api.OpORR:
		rule = func(x, y bool) bool { return x || y }
	case api.OpMOV:
		rule = func(x, y bool) bool { return y }
	case api.OpBIC:
		rule = func(x, y bool) bool { return x && !y }
	case api.OpMVN:
		rule = func(x, y bool) bool { return !y }
	default:
		return 0, false
	}
	w := uint32(0)
	for i := range 32 {
		if rule(a>>i&1 == 1, b>>i&1 == 1) {
			w += 1 << i
		}
	}
	return w, true
}

// doModel: F18.6.
func doModel(op int, a, b uint32, shifted bool, f api.Flags) (uint32, bool, api.Flags) {
	written := op != api.OpTST && op != api.OpTEQ && op != api.OpCMP && op != api.OpCMN
	if w, ok := bitByBit(op, a, b); ok {
		return w, written, api.Flags{N: w >= 1<<31, Z: w == 0, C: shifted, V: f.V}
	}
	const all = 0xFFFFFFFF
	var w uint32
	var after api.Flags
	switch op {
	case api.OpADD, api.OpCMN:
		w, after = sumModel(a, b, false)
	case api.OpADC:
		w, after = sumModel(a, b, f.C)
	case api.OpSUB, api.OpCMP:
		w, after = sumModel(a, all-b, true)
	case api.OpSBC:
		w, after = sumModel(a, all-b, f.C)
	case api.OpRSB:
		w, after = sumModel(all-a, b, true)
	case api.OpRSC:
		w, after = sumModel(all-a, b, f.C)
	default:
		return 0, false, f
	}
	return w, written, after
}

func checkDo(t *testing.T, op int, a, b uint32, shifted bool, f api.Flags) {
	t.Helper()
	want, write, flags := doModel(op, a, b, shifted, f)
	if w, written, after := alu.Do(op, a, b, shifted, f); w != want || written != write || after != flags {
		t.Errorf("Do(%d, %#x, %#x, %v, %+v) = %#x, %v, %+v, want %#x, %v, %+v", op, a, b, shifted, f, w, written, after, want, write, flags)
	}
}

// F18.6: the chapter's examples, and one of each operation, told by hand.
func TestDoExamples(t *testing.T) {
	c, v, cv := api.Flags{C: true}, api.Flags{V: true}, api.Flags{C: true, V: true}
	for _, x := range []struct {
		op      int
		a, b    uint32
		shifted bool
		f       api.Flags
		want    uint32
		written bool
		after   api.Flags
	}{
		{api.OpSUB, 5, 5, false, api.Flags{}, 0, true, api.Flags{Z: true, C: true}},
		{api.OpCMP, 3, 5, false, v, 0xFFFFFFFE, false, api.Flags{N: true}},
		{api.OpMOV, 9, 0, true, v, 0, true, api.Flags{Z: true, C: true, V: true}},

		{api.OpAND, 0xF0, 0x3C, false, c, 0x30, true, api.Flags{}},
		{api.OpTST, 0xF0, 0x0F, true, v, 0, false, api.Flags{Z: true, C: true, V: true}},
		{api.OpEOR, 0xF0, 0x3C, true, api.Flags{}, 0xCC, true, c},
		{api.OpTEQ, 0xF0, 0xF0, false, cv, 0, false, api.Flags{Z: true, V: true}},
		{api.OpORR, 0xF0, 0x8000000C, false, v, 0x800000FC, true, api.Flags{N: true, V: true}},
		{api.OpBIC, 0xFF, 0x3C, true, api.Flags{N: true, Z: true}, 0xC3, true, c},
		{api.OpMVN, 0xFF, 0, false, cv, 0xFFFFFFFF, true, api.Flags{N: true, V: true}},
		{api.OpADD, 0x7FFFFFFF, 1, true, api.Flags{C: true}, 0x80000000, true, api.Flags{N: true, V: true}},
		{api.OpCMN, 0xFFFFFFFF, 1, false, v, 0, false, api.Flags{Z: true, C: true}},
		{api.OpADC, 5, 6, false, c, 12, true, api.Flags{}},
		{api.OpADC, 5, 6, true, api.Flags{}, 11, true, api.Flags{}},
		{api.OpSBC, 5, 5, false, c, 0, true, api.Flags{Z: true, C: true}},
		{api.OpSBC, 5, 5, true, api.Flags{}, 0xFFFFFFFF, true, api.Flags{N: true}},
		{api.OpRSB, 5, 3, false, v, 0xFFFFFFFE, true, api.Flags{N: true}},
		{api.OpRSB, 3, 5, false, v, 2, true, c},
		{api.OpRSC, 3, 5, false, c, 2, true, c},
		{api.OpRSC, 3, 5, true, api.Flags{}, 1, true, c},
		{api.OpCMP, 0x80000000, 1, false, api.Flags{}, 0x7FFFFFFF, false, cv},

		{0, 5, 5, true, v, 0, false, v},
		{17, 5, 5, true, cv, 0, false, cv},
		{-3, 5, 5, true, api.Flags{N: true}, 0, false, api.Flags{N: true}},
	} {
		if w, written, after := alu.Do(x.op, x.a, x.b, x.shifted, x.f); w != x.want || written != x.written || after != x.after {
			t.Errorf("Do(%d, %#x, %#x, %v, %+v) = %#x, %v, %+v", x.op, x.a, x.b, x.shifted, x.f, w, written, after)
		}
	}
}

// F18.6: all sixteen, at the edges, with all flags and both carries of the shift.
func TestDoIsTheTable(t *testing.T) {
	ends := []uint32{0, 1, 0x7FFFFFFF, 0x80000000, 0xFFFFFFFF, 0x12345678}
	for op := api.OpAND; op <= api.OpMVN; op++ {
		for _, f := range allFlags() {
			for _, shifted := range bools {
				for _, a := range ends {
					for _, b := range ends {
						checkDo(t, op, a, b, shifted, f)
					}
				}
			}
		}
	}
}

// F18.6: any words.
func TestDoOfAnyWords(t *testing.T) {
	r := rand.New(rand.NewSource(8))
	all, flags := words(9, 200), allFlags()
	for op := api.OpAND; op <= api.OpMVN; op++ {
		for range 2000 {
			checkDo(t, op, all[r.Intn(len(all))], all[r.Intn(len(all))], r.Intn(2) == 0, flags[r.Intn(16)])
		}
	}
}

// F18.6: numbers that are no operation of this kind leave the flags.
func TestDoOfNoOperation(t *testing.T) {
	for _, op := range append(outside(api.OpAND, api.OpMVN), 0) {
		for _, f := range allFlags() {
			for _, shifted := range bools {
				if w, written, after := alu.Do(op, 0xFFFFFFFF, 7, shifted, f); w != 0 || written || after != f {
					t.Errorf("Do(%d, .., %v, %+v) = %#x, %v, %+v", op, shifted, f, w, written, after)
				}
			}
		}
	}
}

// P1801: behind OpCMP the conditions order both words, without and with sign, whatever the flags were.
func TestOrderedByFlags(t *testing.T) {
	for _, a := range words(10, 40) {
		for _, b := range append(words(11, 20), a, a-1, a+1, ^a, a^1<<31) {
			for _, before := range allFlags() {
				w, _, f := alu.Do(api.OpCMP, a, b, before.N, before)
				plain, signed := whole(a).Cmp(whole(b)), withSign(a).Cmp(withSign(b))
				for cond, want := range map[int]bool{
					0: plain == 0, 2: plain >= 0, 8: plain > 0, 10: signed >= 0, 12: signed > 0,
					1: plain != 0, 3: plain < 0, 9: plain <= 0, 11: signed < 0, 13: signed <= 0,
					4: w >= 1<<31, 6: f.V, 5: w < 1<<31, 7: !f.V, 14: true,
				} {
					if got := alu.Passed(cond, f); got != want {
						t.Fatalf("behind OpCMP of %#x, %#x: Passed(%d) = %v", a, b, cond, got)
					}
				}
			}
		}
	}
}

// join: two words as a number of 64 bits.
func join(high, low uint32) uint64 { return uint64(high)<<32 | uint64(low) }

// P1802: sums and differences of 64 bits by two operations.
func TestLongSums(t *testing.T) {
	r := rand.New(rand.NewSource(12))
	all := words(13, 100)
	pick := func() uint32 { return all[r.Intn(len(all))] }
	for i := range 20000 {
		ah, al, bh, bl := pick(), pick(), pick(), pick()
		if i%4 == 0 {
			al = -bl // on the edge of the carry
		}
		if i%4 == 1 {
			al = bl
		}
		f := allFlags()[r.Intn(16)]
		low, _, mid := alu.Do(api.OpADD, al, bl, true, f)
		high, _, _ := alu.Do(api.OpADC, ah, bh, true, mid)
		if got, want := join(high, low), join(ah, al)+join(bh, bl); got != want {
			t.Fatalf("%#x + %#x = %#x", join(ah, al), join(bh, bl), got)
		}
		low, _, mid = alu.Do(api.OpSUB, al, bl, true, f)
		high, _, _ = alu.Do(api.OpSBC, ah, bh, true, mid)
		if got, want := join(high, low), join(ah, al)-join(bh, bl); got != want {
			t.Fatalf("%#x - %#x = %#x", join(ah, al), join(bh, bl), got)
		}
	}
}

// P1806: three operations by three others.
func TestBySums(t *testing.T) {
	for _, a := range words(14, 20) {
		for _, b := range append(words(15, 10), a) {
			for _, f := range allFlags() {
				for _, shifted := range bools {
					w, written, after := alu.Do(api.OpRSB, a, b, shifted, f)
					w2, written2, after2 := alu.Do(api.OpSUB, b, a, shifted, f)
					if w != w2 || written != written2 || after != after2 {
						t.Fatalf("OpRSB of %#x, %#x = %#x, %+v, OpSUB turned round = %#x, %+v", a, b, w, after, w2, after2)
					}
					not, _, _ := alu.Do(api.OpMVN, a, b, shifted, f)
					if w, _, _ := alu.Do(api.OpEOR, b, 0xFFFFFFFF, shifted, f); w != not {
						t.Fatalf("OpMVN of %#x = %#x, OpEOR with all ones = %#x", b, not, w)
					}
					w, written, after = alu.Do(api.OpBIC, a, b, shifted, f)
					w2, written2, after2 = alu.Do(api.OpAND, a, not, shifted, f)
					if w != w2 || written != written2 || after != after2 {
						t.Fatalf("OpBIC of %#x, %#x = %#x, %+v, OpAND with OpMVN's word = %#x, %+v", a, b, w, after, w2, after2)
					}
				}
			}
		}
	}
}

// Nothing is kept: an answer does not hang on the calls ahead of it.
func TestNothingIsKept(t *testing.T) {
	type answer struct {
		w       uint32
		written bool
		f       api.Flags
	}
	ask := func(i int) answer {
		w, written, f := alu.Do(i%18, edges[i%len(edges)], edges[i*7%len(edges)], i%3 == 0, allFlags()[i%16])
		return answer{w, written, f}
	}
	var first []answer
	for i := range 1000 {
		first = append(first, ask(i))
	}
	for i := 999; i >= 0; i-- {
		if got := ask(i); got != first[i] {
			t.Fatalf("call %d = %v, at first %v", i, got, first[i])
		}
	}
}
