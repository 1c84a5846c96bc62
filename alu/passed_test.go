package alu_test

import (
	"testing"

	"atlas/alu"
	"atlas/api"
)

// holds: under which of the sixteen flags each condition holds: the bit 8 * N + 4 * Z + 2 * C + V.
var holds = [15]uint16{0xF0F0, 0x0F0F, 0xCCCC, 0x3333, 0xFF00, 0x00FF, 0xAAAA, 0x5555, 0x0C0C, 0xF3F3, 0xAA55, 0x55AA, 0x0A05, 0xF5FA, 0xFFFF}

func TestPassedExamples(t *testing.T) {
	if !alu.Passed(8, api.Flags{C: true}) {
		t.Error("8 with C")
	}
	if alu.Passed(8, api.Flags{Z: true, C: true}) {
		t.Error("8 with Z and C")
	}
	if !alu.Passed(14, api.Flags{}) {
		t.Error("14")
	}
	if alu.Passed(15, api.Flags{}) {
		t.Error("15")
	}
}

// F18.1: every condition under all sixteen flags.
func TestPassedUnderAllFlags(t *testing.T) {
	for cond, bits := range holds {
		for i, f := range allFlags() {
			if got, want := alu.Passed(cond, f), bits>>i&1 == 1; got != want {
				t.Errorf("Passed(%d, %+v) = %v", cond, f, got)
			}
		}
	}
}

// F18.1: the conditions stand in pairs, of which just one holds.
func TestPassedPairs(t *testing.T) {
	for cond := 0; cond < 14; cond += 2 {
		for _, f := range allFlags() {
			if alu.Passed(cond, f) == alu.Passed(cond+1, f) {
				t.Errorf("Passed(%d and %d, %+v) are the same", cond, cond+1, f)
			}
		}
	}
}

// F18.1: what is no condition holds under no flags.
func TestPassedOfNoCondition(t *testing.T) {
	for _, cond := range outside(0, 14) {
		for _, f := range allFlags() {
			if alu.Passed(cond, f) {
				t.Errorf("Passed(%d, %+v)", cond, f)
			}
		}
	}
}

// F18.9: one flag by one, and all together.
func TestWordOfFlags(t *testing.T) {
	for _, c := range []struct {
		f api.Flags
		w uint32
	}{
		{api.Flags{}, 0},
		{api.Flags{N: true}, 0x80000000},
		{api.Flags{Z: true}, 0x40000000},
		{api.Flags{C: true}, 0x20000000},
		{api.Flags{V: true}, 0x10000000},
		{api.Flags{Z: true, C: true}, 0x60000000},
		{api.Flags{N: true, V: true}, 0x90000000},
		{api.Flags{N: true, Z: true, C: true, V: true}, 0xF0000000},
	} {
		if got := alu.Word(c.f); got != c.w {
			t.Errorf("Word(%+v) = %#x, want %#x", c.f, got, c.w)
		}
		for _, rest := range []uint32{0, 1, 0x13, 0x0800001F, 0x0FFFFFFF} {
			if got := alu.Flags(c.w | rest); got != c.f {
				t.Errorf("Flags(%#x) = %+v, want %+v", c.w|rest, got, c.f)
			}
		}
	}
}

// F18.9: there and back, and what other bits of a word say is left out.
func TestFlagsThereAndBack(t *testing.T) {
	for i, f := range allFlags() {
		if got := alu.Word(f); got != uint32(i)<<28 {
			t.Errorf("Word(%+v) = %#x", f, got)
		}
		if got := alu.Flags(alu.Word(f)); got != f {
			t.Errorf("Flags(Word(%+v)) = %+v", f, got)
		}
	}
	for _, w := range words(1, 500) {
		if got, want := alu.Word(alu.Flags(w)), w&0xF0000000; got != want {
			t.Errorf("Word(Flags(%#x)) = %#x", w, got)
		}
	}
}
