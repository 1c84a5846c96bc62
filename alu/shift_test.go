package alu_test

import (
	"testing"

	"atlas/alu"
	"atlas/api"
)

// stepByStep: F18.2, one bit at a time: the carry is the last bit that fell out.
func stepByStep(kind int, x uint32, n int, carry bool) (uint32, bool) {
	if kind == api.ShRRX {
		n = 1
	}
	top := x / (1 << 31)
	for range ((n % 256) + 256) % 256 {
		low := x % 2
		switch kind {
		case api.ShLSL:
			carry, x = x/(1<<31) == 1, x*2
		case api.ShLSR:
			carry, x = low == 1, x/2
		case api.ShASR:
			carry, x = low == 1, x/2+top*(1<<31)
		case api.ShROR:
			carry, x = low == 1, x/2+low*(1<<31)
		case api.ShRRX:
			x = x / 2
			if carry {
				x += 1 << 31
			}
			carry = low == 1
		}
	}
	return x, carry
}

func checkShift(t *testing.T, kind int, x uint32, n int, carry bool, want uint32, out bool) {
	t.Helper()
	if w, c := alu.Shift(kind, x, n, carry); w != want || c != out {
		t.Errorf("Shift(%d, %#x, %d, %v) = %#x, %v, want %#x, %v", kind, x, n, carry, w, c, want, out)
	}
}

// F18.2: the chapter's examples, and each line of its list at its ends.
func TestShiftExamples(t *testing.T) {
	for _, c := range []struct {
		kind  int
		x     uint32
		n     int
		carry bool
		want  uint32
		out   bool
	}{
		{api.ShLSL, 0x80000001, 1, false, 2, true},
		{api.ShLSL, 1, 32, false, 0, true},
		{api.ShLSL, 1, 33, true, 0, false},
		{api.ShASR, 0x80000000, 40, false, 0xFFFFFFFF, true},
		{api.ShROR, 0x80000000, 32, false, 0x80000000, true},
		{api.ShRRX, 3, 0, true, 0x80000001, true},
		{api.ShLSR, 5, 256, true, 5, true},
		{7, 5, 3, true, 5, true},

		{api.ShLSL, 3, 31, false, 0x80000000, true},
		{api.ShLSL, 2, 32, true, 0, false},
		{api.ShLSL, 0xFFFFFFFF, 255, true, 0, false},
		{api.ShLSL, 0xFFFFFFFF, -1, true, 0, false},
		{api.ShLSL, 1, -255, false, 2, false},
		{api.ShLSR, 0x80000001, 1, false, 0x40000000, true},
		{api.ShLSR, 0xC0000000, 31, false, 1, true},
		{api.ShLSR, 0x80000000, 32, false, 0, true},
		{api.ShLSR, 0x7FFFFFFF, 32, true, 0, false},
		{api.ShLSR, 0xFFFFFFFF, 33, true, 0, false},
		{api.ShASR, 0x80000001, 1, false, 0xC0000000, true},
		{api.ShASR, 0xBFFFFFFF, 31, true, 0xFFFFFFFF, false},
		{api.ShASR, 0x7FFFFFFF, 31, false, 0, true},
		{api.ShASR, 0x7FFFFFFF, 32, true, 0, false},
		{api.ShASR, 0x80000000, 32, false, 0xFFFFFFFF, true},
		{api.ShASR, 0x80000000, 255, false, 0xFFFFFFFF, true},
		{api.ShROR, 1, 1, false, 0x80000000, true},
		{api.ShROR, 0x12345678, 8, true, 0x78123456, false},
		{api.ShROR, 0x7FFFFFFF, 32, true, 0x7FFFFFFF, false},
		{api.ShROR, 0x12345678, 40, true, 0x78123456, false},
		{api.ShROR, 0x80000000, 224, false, 0x80000000, true},
		{api.ShROR, 0x80000000, 256, false, 0x80000000, false},
		{api.ShROR, 1, -32, true, 1, false},
		{api.ShRRX, 2, 99, false, 1, false},
		{api.ShRRX, 1, 256, false, 0, true},
		{5, 0x80000001, 1, false, 0x80000001, false},
		{-1, 0x80000001, 32, true, 0x80000001, true},
	} {
		checkShift(t, c.kind, c.x, c.n, c.carry, c.want, c.out)
	}
}

// F18.2: every kind, by every number that counts and others, with both carries, is what as many steps of one bit make.
func TestShiftIsSteps(t *testing.T) {
	far := append([]int{}, wild...)
	for n := -300; n <= 600; n++ {
		far = append(far, n)
	}
	for _, kind := range []int{api.ShLSL, api.ShLSR, api.ShASR, api.ShROR, api.ShRRX} {
		for _, n := range far {
			for _, x := range words(2, 10) {
				for _, carry := range bools {
					want, out := stepByStep(kind, x, n, carry)
					checkShift(t, kind, x, n, carry, want, out)
				}
			}
		}
	}
}

// F18.2: by 0, or by 256, nothing is shifted and the carry stands; ShRRX asks for no number.
func TestShiftByNothing(t *testing.T) {
	for _, n := range []int{0, 256, -256, 512, 1 << 32, -1 << 40} {
		for _, x := range edges {
			for _, carry := range bools {
				for kind := api.ShLSL; kind <= api.ShROR; kind++ {
					checkShift(t, kind, x, n, carry, x, carry)
				}
				want, out := alu.Shift(api.ShRRX, x, 1, carry)
				checkShift(t, api.ShRRX, x, n, carry, want, out)
			}
		}
	}
}

// F18.2: a turn by a multiple of 32 that is not 0 leaves the word, and tells its highest bit.
func TestTurnByWholeWords(t *testing.T) {
	for n := 32; n < 256; n += 32 {
		for _, x := range words(3, 20) {
			for _, carry := range bools {
				checkShift(t, api.ShROR, x, n, carry, x, x >= 1<<31)
			}
		}
	}
}

// F18.2: a kind that is none leaves both.
func TestShiftOfNoKind(t *testing.T) {
	for _, kind := range outside(api.ShLSL, api.ShRRX) {
		for _, n := range []int{0, 1, 31, 32, 33, 255, 256, -1, -256} {
			for _, carry := range bools {
				checkShift(t, kind, 0x80000001, n, carry, 0x80000001, carry)
			}
		}
	}
}

// F18.3.
func TestDecode(t *testing.T) {
	type shift struct{ kind, n int }
	want := map[shift]shift{
		{api.ShLSL, 0}: {api.ShLSL, 0},
		{api.ShLSR, 0}: {api.ShLSR, 32},
		{api.ShASR, 0}: {api.ShASR, 32},
		{api.ShROR, 0}: {api.ShRRX, 1},
	}
	for kind := api.ShLSL; kind <= api.ShROR; kind++ {
		for n := 1; n <= 31; n++ {
			want[shift{kind, n}] = shift{kind, n}
		}
	}
	if len(want) != 128 {
		t.Fatal(len(want))
	}
	ask := func(kind, n int) {
		meant := want[shift{kind, n}] // what is not there is ShLSL 0
		if k, far := alu.Decode(kind, n); (shift{k, far}) != meant {
			t.Errorf("Decode(%d, %d) = %d, %d, want %v", kind, n, k, far, meant)
		}
	}
	numbers := append([]int{}, wild...)
	for n := -40; n <= 80; n++ {
		numbers = append(numbers, n)
	}
	for _, kind := range numbers {
		for _, n := range numbers {
			ask(kind, n)
		}
	}
}

// P1803: turned by n and by 32 - n, a word is itself.
func TestTurnedAndBack(t *testing.T) {
	for _, x := range words(4, 300) {
		for n := 1; n <= 31; n++ {
			for _, carry := range bools {
				turned, _ := alu.Shift(api.ShROR, x, n, carry)
				checkShift(t, api.ShROR, turned, 32-n, carry, x, x >= 1<<31)
			}
		}
	}
}

// P1803: ShRRX takes back what OpADC of a word to itself did.
func TestDoubledAndBack(t *testing.T) {
	for _, x := range words(5, 300) {
		for _, f := range allFlags() {
			doubled, _, after := alu.Do(api.OpADC, x, x, false, f)
			checkShift(t, api.ShRRX, doubled, 0, after.C, x, f.C)
		}
	}
}
