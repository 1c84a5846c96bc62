package asm_test

import (
	"fmt"
	"slices"
	"strings"
	"testing"

	"atlas/api"
	"atlas/asm"
	"atlas/isa"
)

// checkTexts: of words the lines, at an address; P2106: and of the lines the words.
func checkTexts(t *testing.T, at uint32, lines map[uint32]string) {
	t.Helper()
	for w, want := range lines {
		i, ok := isa.Decode(w)
		if s, e := asm.Text(i, at); !ok || s != want || e != api.OK {
			t.Errorf("Text of %#x at %#x: %q, %d, want %q", w, at, s, e, want)
		}
		checkWords(t, at, map[string]uint32{want: w})
	}
}

// The chapter's examples 2 and 4.
func TestTextExamples(t *testing.T) {
	for want, i := range map[string]api.Ins{
		"mov r0, #256":   {Cond: 14, Op: api.OpMOV, Form: api.FormImm, Imm: 0xC01},
		"mov r0, #4, 30": {Cond: 14, Op: api.OpMOV, Form: api.FormImm, Imm: 0xF04},
		"b 0x8000":       {Cond: 14, Op: api.OpB, Imm: 0xFFFFFFF8},
	} {
		if s, e := asm.Text(i, 0x8000); s != want || e != api.OK {
			t.Errorf("Text(%+v) = %q, %d, want %q", i, s, e, want)
		}
	}
}

// P2101: an instruction of each row, by hand.
func TestTexts(t *testing.T) {
	checkTexts(t, 0, map[uint32]string{
		0xE0021003: "and r1, r2, r3", 0xE0321003: "eors r1, r2, r3", 0x10421203: "subne r1, r2, r3, lsl #4", 0x30621433: "rsbcc r1, r2, r3, lsr r4", 0xE0821043: "add r1, r2, r3, asr #32", 0xC0B21FE3: "adcsgt r1, r2, r3, ror #31",
		0xE0C21063: "sbc r1, r2, r3, rrx", 0xE2E21EFF: "rsc r1, r2, #4080", 0xE1120003: "tst r2, r3", 0x23320003: "teqcs r2, #3", 0xE1520453: "cmp r2, r3, asr r4", 0xE1720473: "cmn r2, r3, ror r4", 0xE1500001: "cmp r0, r1",
		0xE1821413: "orr r1, r2, r3, lsl r4", 0xE1A01023: "mov r1, r3, lsr #32", 0xE1C210A3: "bic r1, r2, r3, lsr #1", 0xE3E01003: "mvn r1, #3", 0xE1F01F83: "mvns r1, r3, lsl #31", 0xE1B0F00E: "movs pc, lr", 0xE1A01443: "mov r1, r3, asr #8",
		0xE30A1BCD: "movw r1, #43981", 0xE34A1BCD: "movt r1, #43981", 0x53001000: "movwpl r1, #0",
		0xE0010392: "mul r1, r2, r3", 0xE0110392: "muls r1, r2, r3", 0xE0214392: "mla r1, r2, r3, r4", 0xE0821493: "umull r1, r2, r3, r4", 0xE0A21493: "umlal r1, r2, r3, r4", 0xE0D21493: "smulls r1, r2, r3, r4", 0xB0F21493: "smlalslt r1, r2, r3, r4",
		0xE16F1F12: "clz r1, r2", 0xE6BF1F32: "rev r1, r2", 0xE6EF1072: "uxtb r1, r2", 0xE6FF1472: "uxth r1, r2, ror #8", 0xE6AF1872: "sxtb r1, r2, ror #16", 0xE6BF1C72: "sxth r1, r2, ror #24",
		0xE5921000: "ldr r1, [r2]", 0xE5121000: "ldr r1, [r2, #-0]", 0xE5B21000: "ldr r1, [r2, #0]!", 0xE5321000: "ldr r1, [r2, #-0]!", 0xE4921000: "ldr r1, [r2], #0", 0xE4121000: "ldr r1, [r2], #-0", 0xE5921FFF: "ldr r1, [r2, #4095]", 0xE5121FFF: "ldr r1, [r2, #-4095]",
		0xE5A21001: "str r1, [r2, #1]!", 0xE4421001: "strb r1, [r2], #-1", 0xE55F1008: "ldrb r1, [pc, #-8]", 0xE59FF000: "ldr pc, [pc]", 0xE52DE004: "str lr, [sp, #-4]!", 0xE51F0008: "ldr r0, [pc, #-8]",
		0xE7921003: "ldr r1, [r2, r3]", 0xE7121003: "ldr r1, [r2, -r3]", 0xE7B21003: "ldr r1, [r2, r3]!", 0xE6121003: "ldr r1, [r2], -r3", 0xE6921003: "ldr r1, [r2], r3", 0xE7821103: "str r1, [r2, r3, lsl #2]", 0xE7221023: "str r1, [r2, -r3, lsr #32]!", 0xE6C21FC3: "strb r1, [r2], r3, asr #31", 0xE65210E3: "ldrb r1, [r2], -r3, ror #1", 0xE7921063: "ldr r1, [r2, r3, rrx]", 0xE7921043: "ldr r1, [r2, r3, asr #32]",
		0xE1D210B0: "ldrh r1, [r2]", 0xE15210B0: "ldrh r1, [r2, #-0]", 0xE1D21FBF: "ldrh r1, [r2, #255]", 0xE1E211B2: "strh r1, [r2, #18]!", 0xE04211B2: "strh r1, [r2], #-18", 0xE0D210F0: "ldrsh r1, [r2], #0", 0xE19210B3: "ldrh r1, [r2, r3]", 0xE13210D3: "ldrsb r1, [r2, -r3]!", 0xE09210F3: "ldrsh r1, [r2], r3", 0xE10210B3: "strh r1, [r2, -r3]",
		0xE8120002: "ldmda r2, {r1}", 0xE8B20003: "ldmia r2!, {r0, r1}", 0xE9120007: "ldmdb r2, {r0-r2}", 0xE9928001: "ldmib r2, {r0, pc}", 0xE8025555: "stmda r2, {r0, r2, r4, r6, r8, r10, r12, lr}", 0x08820002: "stmiaeq r2, {r1}", 0xE92D400F: "stmdb sp!, {r0-r3, lr}", 0xE8BD8010: "ldmia sp!, {r4, pc}", 0xE9826E1F: "stmib r2, {r0-r4, r9-r11, sp, lr}",
		0xE890FFFF: "ldmia r0, {r0-pc}", 0xE8907001: "ldmia r0, {r0, r12-lr}", 0xE890C003: "ldmia r0, {r0, r1, lr, pc}", 0xE890F6E0: "ldmia r0, {r5-r7, r9, r10, r12-pc}", 0xE890D81B: "ldmia r0, {r0, r1, r3, r4, r11, r12, lr, pc}", 0xE8908000: "ldmia r0, {pc}",
		0xEA000000: "b 0x8", 0xEB000001: "bl 0xc", 0x9AFFFFFE: "bls 0x0", 0x0BFFFFFD: "bleq 0xfffffffc", 0xE12FFF1E: "bx lr", 0x112FFF31: "blxne r1", 0xEF000000: "svc #0", 0xEFFFFFFF: "svc #16777215", 0xE1200070: "bkpt #0", 0xE12FFF7F: "bkpt #65535",
		0xE10F1000: "mrs r1, cpsr", 0x014F1000: "mrseq r1, spsr", 0xE128F001: "msr cpsr_f, r1", 0xE12FF00D: "msr cpsr_fsxc, sp", 0xE16FF001: "msr spsr_fsxc, r1", 0xE321F0D3: "msr cpsr_c, #211", 0xE368F20F: "msr spsr_f, #4026531840", 0xE322F100: "msr cpsr_x, #0, 2", 0xE165F00C: "msr spsr_sc, r12",
		0xEE010F10: "mcr p15, #0, r0, c1, c0, #0", 0xEEEF1FDE: "mcr p15, #7, r1, c15, c14, #6", 0xEE101FF9: "mrc p15, #0, r1, c0, c9, #7", 0xE320F000: "nop", 0xE320F003: "wfi", 0x0320F003: "wfieq", 0xD320F000: "nople",
		0xE28F0008: "add r0, pc, #8", 0xE24F0008: "sub r0, pc, #8", 0x00000000: "andeq r0, r0, r0",
	})
	for reg, name := range registers[:16] {
		checkTexts(t, 0, map[uint32]string{0xE1A00000 | uint32(reg): "mov r0, " + name, 0xE1A00001 | uint32(reg)<<12: "mov " + name + ", r1", 0xE1500000 | uint32(reg)<<16: "cmp " + name + ", r0"})
	}
	for cond, word := range conds[:15] {
		word = strings.TrimSpace(word)
		checkTexts(t, 0, map[uint32]string{uint32(cond)<<28 | 0x0A000000: "b" + word + " 0x8", uint32(cond)<<28 | 0x00910002: "adds" + word + " r0, r1, r2", uint32(cond)<<28 | 0x09AD0002: "stmib" + word + " sp!, {r1}", uint32(cond)<<28 | 0x01700000: "cmn" + word + " r0, r0"})
	}
}

// P2101: every twelve bits: one number, if they are the least that say the word; else two.
func TestImmediateTexts(t *testing.T) {
	for imm := range uint32(4096) {
		w := word12(imm)
		want := fmt.Sprintf("mov r7, #%d", w)
		if least, _ := twelve(w); least != imm {
			want = fmt.Sprintf("mov r7, #%d, %d", imm&255, 2*(imm>>8))
		}
		checkTexts(t, 0, map[uint32]string{0xE3A07000 | imm: want})
	}
}

// P2101: b and bl, at both ends of the addresses and of their reach.
func TestBranchTexts(t *testing.T) {
	checkTexts(t, 0, map[uint32]string{0xEAFFFFFE: "b 0x0", 0xEAFFFFFD: "b 0xfffffffc", 0xEA7FFFFF: "b 0x2000004", 0xEA800000: "b 0xfe000008"})
	checkTexts(t, 0xFFFFFFFC, map[uint32]string{0xEAFFFFFE: "b 0xfffffffc", 0xEAFFFFFF: "b 0x0", 0xEB000000: "bl 0x4", 0xEA7FFFFF: "b 0x2000000", 0xEB800000: "bl 0xfe000004"})
	checkTexts(t, 0xFFFFFFF8, map[uint32]string{0xEB000000: "bl 0x0", 0xEB000001: "bl 0x4"})
	checkTexts(t, 0x8000, map[uint32]string{0xEAFFFFFE: "b 0x8000", 0xEAFFDFFE: "b 0x0", 0xE28F0008: "add r0, pc, #8", 0xE59F1004: "ldr r1, [pc, #4]"})
	checkTexts(t, 0x80000001, map[uint32]string{0xEAFFFFFE: "b 0x80000001"})
}

// P2101: what is not right has no text.
func TestWrongTexts(t *testing.T) {
	for _, i := range []api.Ins{
		{}, {Cond: 14}, {Cond: 15, Op: api.OpNOP}, {Cond: -1, Op: api.OpNOP}, {Cond: 14, Op: 53}, {Cond: 14, Op: -1}, {Cond: 14, Op: api.OpNOP, Rd: 1}, {Cond: 14, Op: api.OpMOV, Form: api.FormImm, Imm: 4096}, {Cond: 14, Op: api.OpMOV},
		{Cond: 14, Op: api.OpMOV, Form: api.FormReg, Rd: 16}, {Cond: 14, Op: api.OpMOV, Form: api.FormReg, Rd: -1}, {Cond: 14, Op: api.OpMOV, Form: api.FormReg, Shift: 4}, {Cond: 14, Op: api.OpMOV, Form: api.FormReg, Amount: 32}, {Cond: 14, Op: api.OpMOV, Form: 4},
		{Cond: 14, Op: api.OpCMP, Form: api.FormReg}, {Cond: 14, Op: api.OpLDM, List: 0}, {Cond: 14, Op: api.OpLDR, Form: api.FormImm, Rn: 1, Imm: 4096, Pre: true}, {Cond: 14, Op: api.OpLDR, Form: api.FormRsr, Rn: 1, Pre: true}, {Cond: 14, Op: api.OpB, Imm: 2}, {Cond: 14, Op: api.OpB, Imm: 1 << 25},
		{Cond: 0, Op: api.OpBKPT}, {Cond: 14, Op: api.OpMSR, Form: api.FormReg}, {Cond: 14, Op: api.OpMCR, Tuple: api.Tuple{CRn: 16}}, {Cond: 14, Op: api.OpMCR, Tuple: api.Tuple{Op1: -1}}, {Cond: 14, Op: api.OpUXTB, Amount: 4}, {Cond: 14, Op: api.OpLDR, Form: api.FormImm, Pre: true, Write: true},
	} {
		if s, e := asm.Text(i, 0x8000); s != "" || e != api.ErrIns {
			t.Errorf("Text(%+v) = %q, %d", i, s, e)
		}
	}
}

// P2105: no bytes, one to seven of them, words that say nothing, over the end of the addresses.
func TestDisassemble(t *testing.T) {
	b := []byte{0xFE, 0xFF, 0xFF, 0xEA, 1, 0, 0xA0, 0xE3}
	for n, want := range [][]string{
		{}, {".byte 0xfe"}, {".byte 0xfe, 0xff"}, {".byte 0xfe, 0xff, 0xff"}, {"b 0x8000"}, {"b 0x8000", ".byte 0x1"}, {"b 0x8000", ".byte 0x1, 0x0"}, {"b 0x8000", ".byte 0x1, 0x0, 0xa0"}, {"b 0x8000", "mov r0, #1"},
	} {
		if got := asm.Disassemble(b[:n], 0x8000); !slices.Equal(got, want) {
			t.Errorf("of %d bytes: %q, want %q", n, got, want)
		}
	}
	if got := asm.Disassemble(nil, 5); len(got) != 0 {
		t.Error(got)
	}
	words := []uint32{0xEAFFFFFE, 0xEAFFFFFE, 0xFFFFFFFF, 0xF3A00001, 0xE7F000F0, 0, 0xEAFFFFFE}
	var all []byte
	for _, w := range words {
		all = append(all, little(int64(w), 4)...)
	}
	want := []string{"b 0xfffffff8", "b 0xfffffffc", ".word 0xffffffff", ".word 0xf3a00001", ".word 0xe7f000f0", "andeq r0, r0, r0", "b 0x10"}
	if got := asm.Disassemble(all, 0xFFFFFFF8); !slices.Equal(got, want) {
		t.Errorf("%q", got)
	}
	if got := asm.Disassemble(append(all[:4:4], 7, 0, 0), 3); !slices.Equal(got, []string{"b 0x3", ".byte 0x7, 0x0, 0x0"}) {
		t.Errorf("%q", got)
	}
	if got := asm.Disassemble([]byte{0x0A, 0, 0, 0xF0}, 0); !slices.Equal(got, []string{".word 0xf000000a"}) {
		t.Errorf("%q", got)
	}
}

// P2106: what Disassemble writes from 0x8000 on assembles to the bytes again.
func TestThereAndBack(t *testing.T) {
	t.Parallel()
	w := world{newRand(25)}
	for range 1500 {
		var b []byte
		for range 1 + w.Intn(40) {
			word := w.word()
			if w.chance(4) {
				word = w.Uint32()
			}
			b = append(b, little(int64(word), 4)...)
		}
		b = append(b, little(w.Int63(), w.Intn(4))...)
		lines := asm.Disassemble(b, 0x8000)
		if len(lines) != (len(b)+3)/4 {
			t.Fatalf("%d lines of %d bytes", len(lines), len(b))
		}
		for _, text := range []string{strings.Join(lines, "\n"), ".text\n" + strings.Join(lines, "\n") + "\n", strings.Join(lines, " ; rest\n")} {
			image, list, err := asm.Assemble(text)
			if err != nil || len(image.Segments) != 1 || image.Entry != 0x8000 || len(image.Symbols) != 0 || len(list) != len(lines) {
				t.Fatalf("%q: %+v, %v", text, image, err)
			}
			if want := (api.Segment{VA: 0x8000, Size: uint32(len(b)), Rights: api.Rights{Read: true, Exec: true}, Data: b}); !sameImage(image, api.Image{Entry: 0x8000, Segments: []api.Segment{want}}) {
				t.Fatalf("%q: %+v, want %+v", text, image, want)
			}
		}
	}
	for n := range 4 { // with less than a word there is no first instruction
		text := strings.Join(asm.Disassemble(make([]byte, n), 0x8000), "\n")
		if _, _, err := asm.Assemble(text); err == nil {
			t.Error(n)
		} else if e, line := asm.Code(err); e != api.ErrStart || line != 0 {
			t.Error(n, e, line)
		}
	}
}
