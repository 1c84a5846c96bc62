package cpu_test

import (
	"testing"

	"atlas/alu"
	"atlas/api"
)

// The sixteen operations: tests are those that write no word.
var (
	tests  = []int{api.OpTST, api.OpTEQ, api.OpCMP, api.OpCMN}
	others = []int{api.OpAND, api.OpEOR, api.OpSUB, api.OpRSB, api.OpADD, api.OpADC, api.OpSBC, api.OpRSC, api.OpORR, api.OpMOV, api.OpBIC, api.OpMVN}
)

func isTest(op int) bool { return op >= api.OpTST && op <= api.OpCMN }

// isMove: has it no first operand?
func isMove(op int) bool { return op == api.OpMOV || op == api.OpMVN }

// I20.1: operations by hand: R0 of R1 and a second operand that is not shifted, in the three forms.
func TestData(t *testing.T) {
	for _, c := range []struct {
		op     int
		a, b   uint32
		ahead  string
		word   uint32
		behind string
	}{
		{api.OpAND, 0xF0F1, 0xFF, "CV", 0xF1, "CV"},
		{api.OpAND, 0x80000000, 0xC0000000, "", 0x80000000, "N"},
		{api.OpAND, 1, 2, "NV", 0, "ZV"},
		{api.OpEOR, 0xFF, 0x0F, "NZC", 0xF0, "C"},
		{api.OpEOR, 5, 5, "", 0, "Z"},
		{api.OpSUB, 5, 5, "", 0, "ZC"},
		{api.OpSUB, 3, 5, "CV", 0xFFFFFFFE, "N"},
		{api.OpSUB, 0x80000000, 1, "", 0x7FFFFFFF, "CV"},
		{api.OpRSB, 5, 3, "", 0xFFFFFFFE, "N"},
		{api.OpRSB, 1, 4, "V", 3, "C"},
		{api.OpADD, 0xFFFFFFFF, 1, "", 0, "ZC"},
		{api.OpADD, 0x7FFFFFFF, 1, "ZC", 0x80000000, "NV"},
		{api.OpADC, 1, 2, "C", 4, ""},
		{api.OpADC, 1, 2, "V", 3, ""},
		{api.OpADC, 0xFFFFFFFF, 0, "C", 0, "ZC"},
		{api.OpSBC, 5, 3, "C", 2, "C"},
		{api.OpSBC, 5, 3, "", 1, "C"},
		{api.OpSBC, 3, 3, "", 0xFFFFFFFF, "N"},
		{api.OpRSC, 3, 5, "C", 2, "C"},
		{api.OpRSC, 3, 5, "N", 1, "C"},
		{api.OpTST, 0xF0, 0x0F, "NCV", 0, "ZCV"},
		{api.OpTST, 0x80000000, 0x80000000, "", 0, "N"},
		{api.OpTEQ, 7, 7, "N", 0, "Z"},
		{api.OpTEQ, 0x80000007, 7, "Z", 0, "N"},
		{api.OpCMP, 3, 5, "V", 0, "N"},
		{api.OpCMP, 5, 5, "", 0, "ZC"},
		{api.OpCMN, 0xFFFFFFFF, 1, "", 0, "ZC"},
		{api.OpCMN, 0x7FFFFFFF, 1, "", 0, "NV"},
		{api.OpORR, 0xF0, 0x0F, "ZCV", 0xFF, "CV"},
		{api.OpORR, 0x80000000, 1, "", 0x80000001, "N"},
		{api.OpMOV, 9, 0, "NV", 0, "ZV"},
		{api.OpMOV, 9, 0xC0000001, "", 0xC0000001, "N"},
		{api.OpBIC, 0xFF, 0x0F, "NC", 0xF0, "C"},
		{api.OpBIC, 3, 3, "", 0, "Z"},
		{api.OpMVN, 9, 0, "ZC", 0xFFFFFFFF, "NC"},
		{api.OpMVN, 9, 0xFFFFFFFF, "", 0, "Z"},
	} {
		for _, form := range []int{api.FormImm, api.FormReg, api.FormRsr} {
			for _, set := range []bool{false, true} {
				i := api.Ins{Op: c.op, Form: form, S: set}
				s := full(api.ModeUSR)
				s.CPSR |= flags(c.ahead)
				s.Low[0], s.Low[1], s.Low[2], s.Low[3] = 0xDEADBEEF, c.a, c.b, 0xFFFFFF00
				switch {
				case form == api.FormImm && c.b > 255 || isTest(c.op) && !set:
					continue
				case form == api.FormImm:
					i.Imm = c.b
				case form == api.FormRsr:
					i.Rm, i.Rs = 2, 3
				default:
					i.Rm = 2
				}
				if !isMove(c.op) {
					i.Rn = 1
				}
				expectDone(t, "an operation", s, &bus{values: []uint32{wordOf(t, i)}}, func(s *api.State) {
					if !isTest(c.op) {
						s.Low[0] = c.word
					}
					if set {
						s.CPSR = api.ModeUSR | flags(c.behind)
					}
				})
			}
		}
	}
}

// I20.1: a number's carry is the highest bit of its word, unless it is not turned; a shifted register's carry is its shift's.
func TestCarryOfTheSecondOperand(t *testing.T) {
	for _, c := range []struct {
		word          uint32 // of R0 and R1
		ahead, behind string
		r0            uint32
	}{
		{0xE3B000FF, "C", "C", 0xFF},       // MOVS R0, #0xFF
		{0xE3B000FF, "", "", 0xFF},         //
		{0xE3B00102, "", "NC", 0x80000000}, // MOVS R0, #0x80000000
		{0xE3B004FF, "V", "NCV", 0xFF000000},
		{0xE3B00C01, "C", "", 0x100},      // MOVS R0, #0x100
		{0xE1B00081, "", "C", 6},          // MOVS R0, R1, LSL #1
		{0xE1B000A1, "", "C", 0x40000001}, // LSR #1
		{0xE1B00021, "", "ZC", 0},         // LSR #32
		{0xE1B00041, "", "NC", 0xFFFFFFFF},
		{0xE1B00061, "C", "NC", 0xC0000001}, // RRX
		{0xE1B00061, "", "C", 0x40000001},
		{0xE1B00001, "", "N", 0x80000003}, // as it is
		{0xE1B00001, "C", "NC", 0x80000003},
		{0xE0900081, "", "", 6 + 5},       // ADDS R0, R0, R1, LSL #1: the carry is the sum's
		{0xE0B000A1, "C", "", 0x40000007}, // ADCS R0, R0, R1, LSR #1: the carry that is added is not the shift's
		{0xE0B000A1, "", "", 0x40000006},
	} {
		s := full(api.ModeSVC)
		s.CPSR |= flags(c.ahead)
		s.Low[0], s.Low[1] = 5, 0x80000003
		expectDone(t, "a carry", s, &bus{values: []uint32{c.word}}, func(s *api.State) {
			s.Low[0] = c.r0
			s.CPSR = api.ModeSVC | flags(c.behind)
		})
	}
}

// bitByBit: x shifted by n, one bit after the other, and the last one that fell out.
func bitByBit(kind int, x uint32, n int, carry bool) (uint32, bool) {
	for range n {
		out := x & 1
		switch kind {
		case api.ShLSL:
			out, x = x>>31, x<<1
		case api.ShLSR:
			x >>= 1
		case api.ShASR:
			x = x>>1 | x&(1<<31)
		case api.ShROR:
			x = x>>1 | out<<31
		}
		carry = out == 1
	}
	return x, carry
}

// moved: the state with R0 as MOVS leaves it.
func moved(s *api.State, w uint32, carry bool) {
	s.Low[0] = w
	s.CPSR &^= flags("NZC")
	if w>>31 == 1 {
		s.CPSR |= flags("N")
	}
	if w == 0 {
		s.CPSR |= flags("Z")
	}
	if carry {
		s.CPSR |= flags("C")
	}
}

// I20.1: of the register that says how far, the lowest byte alone counts.
func TestShiftsByRegisters(t *testing.T) {
	for kind := api.ShLSL; kind <= api.ShROR; kind++ {
		w := wordOf(t, api.Ins{Op: api.OpMOV, S: true, Form: api.FormRsr, Rm: 1, Rs: 2, Shift: kind})
		for far := range uint32(256) {
			for _, above := range []uint32{0, 0x100, 0x80000000, 0xFFFFFF00} {
				for _, x := range []uint32{0x80000001, 0x7FFFFFFE, 0x00010000} {
					for _, f := range []string{"", "CV"} {
						s := full(api.ModeUSR)
						s.CPSR |= flags(f)
						s.Low[1], s.Low[2] = x, above+far
						word, carry := bitByBit(kind, x, int(far), f != "")
						expectDone(t, "a shift by a register", s, &bus{values: []uint32{w}}, func(s *api.State) { moved(s, word, carry) })
					}
				}
			}
		}
	}
}

// I20.1: shifts by numbers, of which 0 says 32, or through the carry.
func TestShiftsByNumbers(t *testing.T) {
	for kind := api.ShLSL; kind <= api.ShROR; kind++ {
		for far := range 32 {
			w := wordOf(t, api.Ins{Op: api.OpMOV, S: true, Form: api.FormReg, Rm: 1, Shift: kind, Amount: far})
			for _, x := range []uint32{0x80000001, 0x7FFFFFFE, 0x00010000} {
				for _, had := range []bool{false, true} {
					s := full(api.ModeUSR)
					if had {
						s.CPSR |= flags("C")
					}
					s.Low[1] = x
					n := far
					if far == 0 && (kind == api.ShLSR || kind == api.ShASR) {
						n = 32
					}
					word, carry := bitByBit(kind, x, n, had)
					if far == 0 && kind == api.ShROR {
						word, carry = x>>1|s.CPSR>>29<<31, x&1 == 1
					}
					expectDone(t, "a shift by a number", s, &bus{values: []uint32{w}}, func(s *api.State) { moved(s, word, carry) })
				}
			}
		}
	}
}

// sources: instructions of an operation that read the register 15, with what they read as both operands where that is at.
func sources(op int, s api.State) map[api.Ins][2]uint32 {
	pc := s.PC + 8
	all := map[api.Ins][2]uint32{
		{Op: op, Form: api.FormReg, Rn: 1, Rm: 15}:  {s.Low[1], pc},
		{Op: op, Form: api.FormReg, Rn: 15, Rm: 15}: {pc, pc},
		{Op: op, Form: api.FormReg, Rn: 15, Rm: 2}:  {pc, s.Low[2]},
		{Op: op, Form: api.FormImm, Rn: 15, Imm: 4}: {pc, 4},
	}
	if !isMove(op) {
		return all
	}
	return map[api.Ins][2]uint32{{Op: op, Form: api.FormReg, Rm: 15}: {0, pc}}
}

// I20.1: each operation that reads the register 15: it is At + 8.
func TestDataFromPC(t *testing.T) {
	for _, op := range append(others, tests...) {
		for _, pc := range []uint32{at, 0, 0xFFFFFFF8, 0xFFFFFFFC} {
			s := full(api.ModeSVC)
			s.PC = pc
			s.CPSR |= flags("C")
			for i, operands := range sources(op, s) {
				i.S = isTest(op)
				w, written, f := alu.Do(op, operands[0], operands[1], true, alu.Flags(s.CPSR))
				expectDone(t, "of the PC", s, &bus{values: []uint32{wordOf(t, i)}}, func(s *api.State) {
					if written {
						s.Low[0] = w
					} else {
						s.CPSR = api.ModeSVC | alu.Word(f)
					}
				})
			}
		}
	}
}

// targets: instructions of an operation on R1 and R2, or a number, whose target is the register 15.
func targets(op int, set bool) []api.Ins {
	all := []api.Ins{
		{Op: op, S: set, Form: api.FormImm, Rd: 15, Rn: 1, Imm: 0xF07},
		{Op: op, S: set, Form: api.FormReg, Rd: 15, Rn: 1, Rm: 2},
		{Op: op, S: set, Form: api.FormReg, Rd: 15, Rn: 1, Rm: 2, Shift: api.ShROR, Amount: 7},
	}
	for n := range all {
		if isMove(op) {
			all[n].Rn = 0
		}
	}
	return all
}

// wordInto: what such an instruction writes.
func wordInto(i api.Ins, s api.State) uint32 {
	b := s.Low[2]
	if i.Form == api.FormImm {
		b = 7 << 2
	} else if i.Amount != 0 {
		b = b>>7 | b<<25
	}
	w, _, _ := alu.Do(i.Op, s.Low[1], b, false, alu.Flags(s.CPSR))
	return w
}

// I20.1: each operation that writes the register 15: the PC is the word, its lowest two bits cleared; the flags stay.
func TestDataIntoPC(t *testing.T) {
	for _, op := range others {
		for low := range uint32(4) {
			for _, i := range targets(op, false) {
				s := full(api.ModeUSR)
				s.CPSR |= flags("CV")
				s.Low[1], s.Low[2] = 0x12345678, 0x9ABCDE00+low
				w := wordInto(i, s)
				expectDone(t, "into the PC", s, &bus{values: []uint32{wordOf(t, i)}}, func(s *api.State) { s.PC = w &^ 3 })
			}
		}
	}
}

// I20.1: with S that is an exception's return; undefined, where that can not be done.
func TestDataReturns(t *testing.T) {
	for _, op := range others {
		for _, mode := range modes {
			bank := banks[mode]
			for to := range uint32(32) {
				for _, i := range targets(op, true) {
					s := full(mode)
					s.CPSR |= flags("CV")
					s.Low[1], s.Low[2] = 0x12345678, 0x9ABCDE03
					if bank != 0 {
						s.SPSR[bank] = 0x60000080 | to
					}
					b := &bus{values: []uint32{wordOf(t, i)}}
					if _, ok := banks[to]; bank == 0 || !ok {
						expectUndefined(t, "no return", s, b)
						continue
					}
					w := wordInto(i, s)
					expectDone(t, "a return", s, b, func(s *api.State) { s.CPSR, s.PC = 0x60000080|to, w&^3 })
				}
			}
		}
	}
}

// I20.1: the usual ways back out of exceptions.
func TestReturnsByHand(t *testing.T) {
	for _, c := range []struct{ word, lr, pc uint32 }{
		{0xE1B0F00E, 0x1003, 0x1000},     // MOVS PC, LR
		{0xE25EF004, 0x1000, 0xFFC},      // SUBS PC, LR, #4
		{0xE25EF008, 0x1000, 0xFF8},      // SUBS PC, LR, #8
		{0xE25EF008, 0x4, 0xFFFFFFFC},    // it wraps
		{0xE1A0F00E, 0x1002, 0xFFFFFFFF}, // MOV PC, LR is none
	} {
		s := full(api.ModeIRQ)
		s.LR[4], s.SPSR[4] = c.lr, 0x9000001F
		expectDone(t, "a return", s, &bus{values: []uint32{c.word}}, func(s *api.State) {
			s.CPSR, s.PC = s.SPSR[4], c.pc
			if c.pc == 0xFFFFFFFF {
				s.CPSR, s.PC = api.ModeIRQ, 0x1000
			}
		})
	}
}

// I20.1: a test has no target, so R0, which stands in its place, is as it was, and the PC too.
func TestTestsWriteNothing(t *testing.T) {
	for _, op := range tests {
		s := full(api.ModeUSR)
		w := wordOf(t, api.Ins{Op: op, S: true, Form: api.FormReg, Rn: 3, Rm: 4})
		_, _, f := alu.Do(op, s.Low[3], s.Low[4], false, api.Flags{})
		expectDone(t, "a test", s, &bus{values: []uint32{w}}, func(s *api.State) { s.CPSR |= alu.Word(f) })
	}
}

// I20.1: MOVW and MOVT.
func TestHalves(t *testing.T) {
	for n := range 15 {
		for _, imm := range []uint32{0, 1, 0x8000, 0xABCD, 0xFFFF} {
			s := full(api.ModeABT)
			put(&s, n, 0x12345678)
			expectDone(t, "MOVW", s, &bus{values: []uint32{wordOf(t, api.Ins{Op: api.OpMOVW, Rd: n, Imm: imm})}}, func(s *api.State) { put(s, n, imm) })
			expectDone(t, "MOVT", s, &bus{values: []uint32{wordOf(t, api.Ins{Op: api.OpMOVT, Rd: n, Imm: imm})}}, func(s *api.State) { put(s, n, imm<<16|0x5678) })
		}
	}
}

// I20.2: products by hand: R3 (and R4, the low word) of R1 and R2, to which R4 (and R3, the high word) is added.
func TestProducts(t *testing.T) {
	for _, c := range []struct {
		op             int
		rm, rs, r3, r4 uint32
		high, low      uint32 // of the short ones: high is R3 behind, low R4
		ahead, behind  string
	}{
		{api.OpMUL, 7, 6, 1, 0xAA, 42, 0xAA, "NZCV", "CV"},
		{api.OpMUL, 0x10000, 0x10000, 1, 0xAA, 0, 0xAA, "CV", "ZCV"},
		{api.OpMUL, 0xFFFFFFFF, 5, 1, 0xAA, 0xFFFFFFFB, 0xAA, "Z", "N"},
		{api.OpMLA, 7, 6, 1, 8, 50, 8, "N", ""},
		{api.OpMLA, 7, 6, 1, 0xFFFFFFD6, 0, 0xFFFFFFD6, "C", "ZC"},
		{api.OpMLA, 1, 0x7FFFFFFF, 0, 1, 0x80000000, 1, "V", "NV"},
		{api.OpUMULL, 0xFFFFFFFF, 2, 9, 9, 1, 0xFFFFFFFE, "NZ", ""},
		{api.OpUMULL, 0xFFFFFFFF, 0xFFFFFFFF, 9, 9, 0xFFFFFFFE, 1, "", "N"},
		{api.OpUMULL, 0, 5, 9, 9, 0, 0, "NCV", "ZCV"},
		{api.OpUMULL, 0x10000, 0x10000, 9, 9, 1, 0, "Z", ""},
		{api.OpUMULL, 0x10000, 0x8000, 9, 9, 0, 0x80000000, "NZ", ""},
		{api.OpUMLAL, 0xFFFFFFFF, 2, 3, 4, 5, 2, "", ""},
		{api.OpUMLAL, 1, 1, 0xFFFFFFFF, 0xFFFFFFFF, 0, 0, "CV", "ZCV"},
		{api.OpUMLAL, 1, 1, 0x7FFFFFFF, 0xFFFFFFFF, 0x80000000, 0, "Z", "N"},
		{api.OpSMULL, 0xFFFFFFFF, 2, 9, 9, 0xFFFFFFFF, 0xFFFFFFFE, "Z", "N"},
		{api.OpSMULL, 0xFFFFFFFF, 0xFFFFFFFF, 9, 9, 0, 1, "N", ""},
		{api.OpSMULL, 0, 0xFFFFFFFF, 9, 9, 0, 0, "", "Z"},
		{api.OpSMLAL, 0xFFFFFFFF, 2, 0, 2, 0, 0, "N", "Z"},
		{api.OpSMLAL, 0xFFFFFFFF, 1, 5, 0, 4, 0xFFFFFFFF, "NZ", ""},
		{api.OpSMLAL, 0xFFFFFFFF, 1, 0, 0, 0xFFFFFFFF, 0xFFFFFFFF, "", "N"},
	} {
		for _, set := range []bool{false, true} {
			i := api.Ins{Op: c.op, S: set, Rd: 3, Rm: 1, Rs: 2, Ra: 4}
			if c.op == api.OpMUL {
				i.Ra = 0
			}
			s := full(api.ModeUSR)
			s.CPSR |= flags(c.ahead)
			s.Low[1], s.Low[2], s.Low[3], s.Low[4] = c.rm, c.rs, c.r3, c.r4
			expectDone(t, "a product", s, &bus{values: []uint32{wordOf(t, i)}}, func(s *api.State) {
				s.Low[3], s.Low[4] = c.high, c.low
				if set {
					s.CPSR = api.ModeUSR | flags(c.behind)
				}
			})
		}
	}
}

// I20.2: what a product reads is read ahead of what it writes, whichever registers these are.
func TestProductsOfTheirOwn(t *testing.T) {
	s := full(api.ModeUSR)
	s.Low[1], s.Low[2] = 0xFFFFFFFF, 3
	for _, c := range []struct {
		text   string
		ins    api.Ins
		change func(s *api.State)
	}{
		{"MUL R1, R1, R2", api.Ins{Op: api.OpMUL, Rd: 1, Rm: 1, Rs: 2}, func(s *api.State) { s.Low[1] = 0xFFFFFFFD }},
		{"MLA R1, R1, R1, R1", api.Ins{Op: api.OpMLA, Rd: 1, Rm: 1, Rs: 1, Ra: 1}, func(s *api.State) { s.Low[1] = 0 }},
		{"UMULL R1, R2, R1, R2", api.Ins{Op: api.OpUMULL, Rd: 2, Ra: 1, Rm: 1, Rs: 2}, func(s *api.State) { s.Low[2], s.Low[1] = 2, 0xFFFFFFFD }},
		{"UMLAL R2, R1, R1, R2", api.Ins{Op: api.OpUMLAL, Rd: 1, Ra: 2, Rm: 1, Rs: 2}, func(s *api.State) { s.Low[1], s.Low[2] = 2, 0 }},
		{"SMULL R2, R1, R1, R1", api.Ins{Op: api.OpSMULL, Rd: 1, Ra: 2, Rm: 1, Rs: 1}, func(s *api.State) { s.Low[1], s.Low[2] = 0, 1 }},
	} {
		expectDone(t, c.text, s, &bus{values: []uint32{wordOf(t, c.ins)}}, c.change)
	}
}

// I20.2: the small ones.
func TestSmall(t *testing.T) {
	for _, c := range []struct {
		op, amount int
		x, want    uint32
	}{
		{api.OpCLZ, 0, 1, 31}, {api.OpCLZ, 0, 0, 32}, {api.OpCLZ, 0, 0x80000000, 0},
		{api.OpREV, 0, 0x11223344, 0x44332211},
		{api.OpUXTB, 0, 0x11228384, 0x84}, {api.OpUXTB, 1, 0x11228384, 0x83}, {api.OpUXTB, 3, 0x11228384, 0x11},
		{api.OpUXTH, 0, 0x11228384, 0x8384}, {api.OpUXTH, 1, 0x11228384, 0x2283}, {api.OpUXTH, 3, 0x11228384, 0x8411},
		{api.OpSXTB, 0, 0x11228384, 0xFFFFFF84}, {api.OpSXTB, 2, 0x11228384, 0x22},
		{api.OpSXTH, 0, 0x11228384, 0xFFFF8384}, {api.OpSXTH, 2, 0x11228384, 0x1122}, {api.OpSXTH, 3, 0x11228384, 0xFFFF8411},
	} {
		for rd := range 15 {
			s := full(api.ModeSVC)
			s.CPSR |= flags("NZCV")
			put(&s, 14-rd, c.x)
			w := wordOf(t, api.Ins{Op: c.op, Rd: rd, Rm: 14 - rd, Amount: c.amount})
			expectDone(t, "a small one", s, &bus{values: []uint32{w}}, func(s *api.State) { put(s, rd, c.want) })
		}
	}
}
