package isa_test

import (
	"testing"

	"atlas/api"
	"atlas/isa"
)

// regs: the bits of registers.
func regs(some ...int) (all uint16) {
	for _, reg := range some {
		all |= 1 << reg
	}
	return all
}

// P1904: words of every row, with the registers that they read and write, told by hand.
func TestTouchesOfEveryRow(t *testing.T) {
	for _, c := range []struct {
		text          string
		word          uint32
		reads, writes uint16
	}{
		{"str lr, [sp, #-4]!", 0xE52DE004, regs(13, 14), regs(13)}, // the chapter's
		{"and r0, r1, #255", 0xE20100FF, regs(1), regs(0)},
		{"eor r2, r1, r3", 0xE0212003, regs(1, 3), regs(2)},
		{"sub r2, r1, r3, lsl r4", 0xE0412413, regs(1, 3, 4), regs(2)},
		{"rsb r0, r0, #0", 0xE2600000, regs(0), regs(0)},
		{"add pc, pc, pc", 0xE08FF00F, regs(15), regs(15)},
		{"adc r5, r6, r7", 0xE0A65007, regs(6, 7), regs(5)},
		{"sbcs r5, r6, #1", 0xE2D65001, regs(6), regs(5)},
		{"rsc r5, r6, r7, ror r8", 0xE0E65877, regs(6, 7, 8), regs(5)},
		{"orr r5, r6, #1", 0xE3865001, regs(6), regs(5)},
		{"bic r5, r6, r7", 0xE1C65007, regs(6, 7), regs(5)},
		{"tst r4, #1", 0xE3140001, regs(4), 0},
		{"teq r4, r5", 0xE1340005, regs(4, 5), 0},
		{"cmp r4, r5, lsl r6", 0xE1540615, regs(4, 5, 6), 0},
		{"cmn r4, #0", 0xE3740000, regs(4), 0},
		{"mov r3, #1", 0xE3A03001, 0, regs(3)},
		{"movs pc, lr", 0xE1B0F00E, regs(14), regs(15)},
		{"mvn r3, r4, lsr r5", 0xE1E03534, regs(4, 5), regs(3)},
		{"movw r3, #1", 0xE3003001, 0, regs(3)},
		{"movt r3, #1", 0xE3403001, regs(3), regs(3)},
		{"mul r3, r1, r2", 0xE0030291, regs(1, 2), regs(3)},
		{"mla r3, r1, r2, r4", 0xE0234291, regs(1, 2, 4), regs(3)},
		{"umull r4, r3, r1, r2", 0xE0834291, regs(1, 2), regs(3, 4)},
		{"umlal r4, r3, r1, r2", 0xE0A34291, regs(1, 2, 3, 4), regs(3, 4)},
		{"smull r4, r3, r1, r2", 0xE0C34291, regs(1, 2), regs(3, 4)},
		{"smlal r4, r3, r1, r2", 0xE0E34291, regs(1, 2, 3, 4), regs(3, 4)},
		{"clz r3, r4", 0xE16F3F14, regs(4), regs(3)},
		{"rev r3, r4", 0xE6BF3F34, regs(4), regs(3)},
		{"uxtb r3, r4", 0xE6EF3074, regs(4), regs(3)},
		{"uxth r3, r4, ror #8", 0xE6FF3474, regs(4), regs(3)},
		{"sxtb r3, r4", 0xE6AF3074, regs(4), regs(3)},
		{"sxth r3, r4", 0xE6BF3074, regs(4), regs(3)},
		{"ldr r3, [r4]", 0xE5943000, regs(4), regs(3)},
		{"ldr r3, [r4, #4]!", 0xE5B43004, regs(4), regs(3, 4)},
		{"ldr r3, [r4], #4", 0xE4943004, regs(4), regs(3, 4)},
		{"ldr pc, [pc, r5]", 0xE79FF005, regs(5, 15), regs(15)},
		{"str r3, [r4, -r5, lsl #2]", 0xE7043105, regs(3, 4, 5), 0},
		{"str r3, [r4], r5", 0xE6843005, regs(3, 4, 5), regs(4)},
		{"ldrb r3, [r4, #1]", 0xE5D43001, regs(4), regs(3)},
		{"ldrb r3, [r4], r5", 0xE6D43005, regs(4, 5), regs(3, 4)},
		{"strb r3, [r4, #1]", 0xE5C43001, regs(3, 4), 0},
		{"strb r3, [r4, r5]!", 0xE7E43005, regs(3, 4, 5), regs(4)},
		{"ldrh r3, [r4, #2]", 0xE1D430B2, regs(4), regs(3)},
		{"ldrh r3, [r4], r5", 0xE09430B5, regs(4, 5), regs(3, 4)},
		{"strh r3, [r4, #2]!", 0xE1E430B2, regs(3, 4), regs(4)},
		{"strh r3, [r4, r5]", 0xE18430B5, regs(3, 4, 5), 0},
		{"ldrsb r3, [r4, #2]", 0xE1D430D2, regs(4), regs(3)},
		{"ldrsb r3, [r4, r5]!", 0xE1B430D5, regs(4, 5), regs(3, 4)},
		{"ldrsh r3, [r4], #2", 0xE0D430F2, regs(4), regs(3, 4)},
		{"ldrsh r3, [r4, r5]", 0xE19430F5, regs(4, 5), regs(3)},
		{"ldmia sp!, {r4, pc}", 0xE8BD8010, regs(13), regs(4, 13, 15)},
		{"ldmda r1, {r0, r1}", 0xE8110003, regs(1), regs(0, 1)},
		{"stmdb sp!, {r4, lr}", 0xE92D4010, regs(4, 13, 14), regs(13)},
		{"stmib r1, {r0, r2}", 0xE9810005, regs(0, 1, 2), 0},
		{"stmda r1, {r1}", 0xE8010002, regs(1), 0},
		{"b", 0xEA000000, 0, regs(15)},
		{"bl", 0xEB000000, 0, regs(14, 15)},
		{"bx r3", 0xE12FFF13, regs(3), regs(15)},
		{"blx r3", 0xE12FFF33, regs(3), regs(14, 15)},
		{"svc #7", 0xEF000007, 0, 0},
		{"bkpt #7", 0xE1200077, 0, 0},
		{"mrs r3, cpsr", 0xE10F3000, 0, regs(3)},
		{"mrs r3, spsr", 0xE14F3000, 0, regs(3)},
		{"msr cpsr_fc, r3", 0xE129F003, regs(3), 0},
		{"msr spsr_f, #0", 0xE368F000, 0, 0},
		{"mcr p15, #0, r3, c1, c0, #0", 0xEE013F10, regs(3), 0},
		{"mrc p15, #0, r3, c1, c0, #0", 0xEE113F10, 0, regs(3)},
		{"nop", 0xE320F000, 0, 0},
		{"wfi", 0xE320F003, 0, 0},
	} {
		for cond := range uint32(15) { // a condition takes nothing away: BKPT alone has just one
			i, ok := isa.Decode(c.word&^(0xF<<28) | cond<<28)
			if ok != (c.text != "bkpt #7" || cond == 14) {
				t.Errorf("%s with the condition %d: %v", c.text, cond, ok)
			}
			if !ok {
				continue
			}
			if got := isa.Reads(i); got != c.reads {
				t.Errorf("Reads of %s = %#x, want %#x", c.text, got, c.reads)
			}
			if got := isa.Writes(i); got != c.writes {
				t.Errorf("Writes of %s = %#x, want %#x", c.text, got, c.writes)
			}
			checkIns(t, i)
		}
	}
}

// P1904: of an instruction that is not right nothing is told, however near it is to one.
func TestTouchesOfNone(t *testing.T) {
	for _, i := range []api.Ins{
		{},
		{Cond: 15, Op: api.OpB},
		{Cond: 14, Op: api.OpADD, Rd: 1, Rn: 2, Rm: 3},
		{Cond: 14, Op: api.OpADD, Form: api.FormReg, Rd: 1, Rn: 2, Rm: 16},
		{Cond: 14, Op: api.OpADD, Form: api.FormReg, Rd: -1, Rn: 2, Rm: 3},
		{Cond: 14, Op: api.OpADD, Form: api.FormRsr, Rd: 1, Rn: 2, Rm: 3, Rs: 15},
		{Cond: 14, Op: api.OpCMP, Form: api.FormReg, Rn: 2, Rm: 3},
		{Cond: 14, Op: api.OpUMULL, Rd: 1, Ra: 1, Rm: 2, Rs: 3},
		{Cond: 14, Op: api.OpLDR, Form: api.FormImm, Rd: 1, Rn: 2, Write: true},
		{Cond: 14, Op: api.OpLDR, Form: api.FormImm, Rd: 1, Rn: 1},
		{Cond: 14, Op: api.OpLDM, Rn: 1},
		{Cond: 14, Op: api.OpSTM, Rn: 1, List: 0x8000},
		{Cond: 14, Op: api.OpBL, Imm: 2},
		{Cond: 14, Op: api.OpBX, Rm: 15},
		{Cond: 14, Op: api.OpMCR, Rd: 1, Tuple: api.Tuple{Op1: 8}},
		{Cond: 14, Op: api.OpLast + 1, Rd: 1, Rn: 2},
		{Cond: 14, Op: -1, Form: api.FormReg, Rd: 1, Rn: 2, Rm: 3},
	} {
		refused(t, i)
		checkIns(t, i)
	}
}
