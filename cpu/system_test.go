package cpu_test

import (
	"testing"

	"atlas/api"
)

// I20.5: B and BL, forth and back, and over both ends.
func TestBranch(t *testing.T) {
	for _, mode := range modes {
		for _, c := range []struct{ pc, imm, to uint32 }{
			{at, 0, at + 8}, {at, 0xFFFFFFF8, at}, {at, 4, at + 12}, {at, 0x1000, at + 0x1008}, {at, 0xFFFFFFFC, at + 4},
			{at, 0x01FFFFFC, at + 0x02000004}, {at, 0xFE000000, at + 8 + 0xFE000000},
			{0, 0xFFFFFFF4, 0xFFFFFFFC}, {4, 0xFFFFFFF0, 0xFFFFFFFC}, {0, 0xFE000000, 0xFE000008},
			{0xFFFFFFFC, 0, 4}, {0xFFFFFFF8, 0, 0}, {0xFFFFFFF0, 0x100, 0xF8}, {0xFFFFFFFC, 0xFFFFFFF8, 0xFFFFFFFC},
		} {
			s := full(mode)
			s.PC = c.pc
			b := &bus{values: []uint32{wordOf(t, api.Ins{Op: api.OpB, Imm: c.imm})}}
			expectDone(t, "B", s, b, func(s *api.State) { s.PC = c.to })
			expectAsked(t, "B", b, s)
			expectDone(t, "BL", s, &bus{values: []uint32{wordOf(t, api.Ins{Op: api.OpBL, Imm: c.imm})}}, func(s *api.State) {
				put(s, 14, c.pc+4)
				s.PC = c.to
			})
		}
	}
}

// I20.5: BX and BLX go where the register says, its lowest two bits cleared; LR, as it was, may be that one.
func TestBranchByRegister(t *testing.T) {
	for _, mode := range modes {
		for rm := range 15 {
			for low := range uint32(4) {
				for _, pc := range []uint32{at, 0xFFFFFFFC} {
					s := full(mode)
					s.PC = pc
					put(&s, rm, 0xFFFF0000+low)
					expectDone(t, "BX", s, &bus{values: []uint32{wordOf(t, api.Ins{Op: api.OpBX, Rm: rm})}}, func(s *api.State) { s.PC = 0xFFFF0000 })
					expectDone(t, "BLX", s, &bus{values: []uint32{wordOf(t, api.Ins{Op: api.OpBLX, Rm: rm})}}, func(s *api.State) {
						put(s, 14, pc+4)
						s.PC = 0xFFFF0000
					})
				}
			}
		}
	}
}

// I20.6: MRS of CPSR in each mode; of SPSR, where there is one.
func TestReadStatus(t *testing.T) {
	for _, mode := range modes {
		for rd := range 15 {
			for _, f := range []uint32{0, 0x80, flags("NZCV"), flags("ZV") | 0x80} {
				s := full(mode)
				s.CPSR |= f
				expectDone(t, "MRS", s, &bus{values: []uint32{wordOf(t, api.Ins{Op: api.OpMRS, Rd: rd})}}, func(s *api.State) { put(s, rd, s.CPSR) })
				b := &bus{values: []uint32{wordOf(t, api.Ins{Op: api.OpMRS, S: true, Rd: rd})}}
				bank := banks[mode]
				if bank == 0 {
					expectUndefined(t, "MRS of no SPSR", s, b)
					continue
				}
				s.SPSR[bank] = f | 1 // no mode, but it is read all the same
				expectDone(t, "MRS of SPSR", s, b, func(s *api.State) { put(s, rd, f|1) })
			}
		}
	}
}

// written: the word with those of its bits that count by the mask of MSR; flagsAlone: the 1 does not.
func written(old, w uint32, mask int, flagsAlone bool) uint32 {
	counts := uint32(0)
	if mask&8 == 8 {
		counts = 0xF0000000
	}
	if mask&1 == 1 && !flagsAlone {
		counts += 0x9F
	}
	return old&^counts + w&counts
}

// I20.6: MSR of CPSR and of SPSR, by a register, with each mask, with each mode and with what is none.
func TestWriteStatus(t *testing.T) {
	for _, mode := range modes {
		bank := banks[mode]
		for mask := 1; mask < 16; mask++ {
			for to := range uint32(32) {
				for _, rest := range []uint32{0, 0xFFFFFFE0, 0x50000080, 0xA0000000, 0x0FFFFF60} {
					s := full(mode)
					s.CPSR |= flags("ZC") | to<<7&0x80
					s.Low[5] = rest | to
					i := api.Ins{Op: api.OpMSR, Form: api.FormReg, Rm: 5, Amount: mask}
					b := &bus{values: []uint32{wordOf(t, i)}}
					w := written(s.CPSR, rest|to, mask, mode == api.ModeUSR)
					if _, ok := banks[w&31]; ok {
						expectDone(t, "MSR", s, b, func(s *api.State) { s.CPSR = w })
					} else {
						expectUndefined(t, "MSR without a mode", s, b)
					}
					expectAsked(t, "MSR", b, s)
					i.S = true
					b = &bus{values: []uint32{wordOf(t, i)}}
					if bank == 0 {
						expectUndefined(t, "MSR of no SPSR", s, b)
						continue
					}
					expectDone(t, "MSR of SPSR", s, b, func(s *api.State) { s.SPSR[bank] = written(s.SPSR[bank], rest|to, mask, false) })
				}
			}
		}
	}
}

// I20.6: MSR by a number, which is turned; its carry is nothing to anybody.
func TestWriteStatusByNumber(t *testing.T) {
	for _, c := range []struct {
		mode, imm, cpsr uint32
		mask            int
	}{
		{api.ModeSVC, 0x4F0, 0xF0000013, 8},          // 0xF0000000
		{api.ModeSVC, 0x20A, 0xA0000013, 9},          // 0xA0000000 has no mode: undefined
		{api.ModeSVC, 0x012, api.ModeIRQ, 1},         // the mode, I cleared
		{api.ModeSVC, 0x0D2, api.ModeIRQ | 0x80, 9},  //
		{api.ModeSVC, 0x010, api.ModeUSR, 15},        //
		{api.ModeSVC, 0x0FF, 0x13, 2},                // nothing counts
		{api.ModeSVC, 0x0FF, 0x13, 4},                //
		{api.ModeSVC, 0x0FF, 0x13, 6},                //
		{api.ModeSYS, 0x09B, api.ModeUND | 0x80, 1},  //
		{api.ModeUSR, 0x0D3, api.ModeUSR, 1},         // a user changes neither the mode nor I
		{api.ModeUSR, 0x4FF, 0xF0000000 | 0x10, 15},  //
		{api.ModeUSR, 0x012, api.ModeUSR, 9},         // the flags are cleared
		{api.ModeABT, 0x017, api.ModeABT, 9},         //
		{api.ModeABT, 0x0FF, api.ModeSYS | 0x80, 1},  //
		{api.ModeABT, 0x0F7, api.ModeABT | 0x80, 15}, //
	} {
		s := full(c.mode)
		if c.mask&8 == 8 {
			s.CPSR |= flags("V")
		}
		b := &bus{values: []uint32{wordOf(t, api.Ins{Op: api.OpMSR, Form: api.FormImm, Imm: c.imm, Amount: c.mask})}}
		if c.imm == 0x20A {
			expectUndefined(t, "MSR without a mode", s, b)
			continue
		}
		expectDone(t, "MSR", s, b, func(s *api.State) { s.CPSR = c.cpsr })
	}
}

// I20.6: from the mode that MSR has set on, the registers are those of its bank.
func TestModesByStatus(t *testing.T) {
	for _, to := range modes {
		s := full(api.ModeSVC)
		s.Low[0] = to
		c := loaded(t, s)
		c.Step(&bus{values: []uint32{0xE121F000}}) // MSR CPSR_c, R0
		s.CPSR, s.PC = to, at+4
		if c.State() != s || c.Reg(13) != s.SP[banks[to]] || c.Reg(14) != s.LR[banks[to]] {
			t.Errorf("mode %#x: %x", to, c.State())
		}
	}
}

// tuple: one no two of whose numbers are alike.
var tuple = api.Tuple{CRn: 13, Op1: 6, CRm: 9, Op2: 3}

// I20.7: MCR.
func TestToCoprocessor(t *testing.T) {
	for _, mode := range modes {
		for rd := range 15 {
			s := full(mode)
			want := asked{Call: "mcr", Tuple: tuple, Value: read(s, rd), User: isUser(s)}
			w := wordOf(t, api.Ins{Op: api.OpMCR, Rd: rd, Tuple: tuple})
			b := &bus{values: []uint32{w}}
			expectDone(t, "MCR", s, b, same)
			expectAsked(t, "MCR", b, s, want)
			for _, e := range []api.Errno{api.ErrUndef, api.ErrPriv, api.ErrArg, -1} {
				b := &bus{values: []uint32{w}, refusal: e}
				expectUndefined(t, "MCR refused", s, b)
				expectAsked(t, "MCR refused", b, s, want)
			}
		}
	}
}

// I20.7: MRC.
func TestFromCoprocessor(t *testing.T) {
	for _, mode := range modes {
		for rd := range 15 {
			s := full(mode)
			want := asked{Call: "mrc", Tuple: tuple, User: isUser(s)}
			values := []uint32{wordOf(t, api.Ins{Op: api.OpMRC, Rd: rd, Tuple: tuple}), 0xCAFE0003}
			b := &bus{values: values}
			expectDone(t, "MRC", s, b, func(s *api.State) { put(s, rd, 0xCAFE0003) })
			expectAsked(t, "MRC", b, s, want)
			for _, e := range []api.Errno{api.ErrUndef, api.ErrPriv, api.ErrArg, -1} {
				b := &bus{values: values, refusal: e}
				expectUndefined(t, "MRC refused", s, b)
				expectAsked(t, "MRC refused", b, s, want)
			}
		}
	}
}

// I20.7: NOP.
func TestNothing(t *testing.T) {
	for _, mode := range modes {
		s := full(mode)
		s.CPSR |= 0x80
		b := &bus{values: []uint32{0xE320F000}}
		expectDone(t, "NOP", s, b, same)
		expectAsked(t, "NOP", b, s)
	}
}
