package asm_test

import (
	"fmt"
	"strings"
	"testing"

	"atlas/api"
	"atlas/asm"
)

// IMMEDIATE by one value: below 0, with no twelve bits, with the least turn, at both ends.
func TestImmediates(t *testing.T) {
	for value, imm := range map[string]uint32{
		"0": 0, "1": 1, "255": 0xFF, "256": 0xC01, "260": 0xF41, "1020": 0xFFF, "0x3fc": 0xFFF, "16": 0x010, "0x10000": 0x801, "0xff00": 0xCFF, "0xff0": 0xEFF,
		"0x80000000": 0x102, "0x40000000": 0x101, "0xc0000000": 0x103, "0xff000000": 0x4FF, "0xf000000f": 0x2FF, "0xc000003f": 0x1FF, "0xfc000003": 0x3FF, "0x30000000": 0x203, "0x1000000": 0x401,
		"-2147483648": 0x102, "-0x80000000": 0x102, "-1073741824": 0x103, "-0x1000000": 0x4FF, "-0": 0, "-0x40000000": 0x103, "-2147483647": 0x106, "'a'": 97, "'\\xff'": 255, "'\u0100'": 0xC01,
	} {
		checkWords(t, 0, map[string]uint32{"mov r0, #" + value: 0xE3A00000 | imm, "msr cpsr_c, #" + value: 0xE321F000 | imm, "cmp r0, #" + value: 0xE3500000 | imm, "add r0, r0, # " + value: 0xE2800000 | imm})
	}
	checkErrors(t, 0, api.ErrReach, "mov r0, #257", "mov r0, #-1", "mov r0, #511", "mov r0, #0x1fe", "mov r0, #0x101", "mov r0, #0xff1", "mov r0, #0xffffffff", "mov r0, #-255", "mov r0, #-2", "mov r0, #0x7fffffff", "msr cpsr_f, #257",
		"mov r0, #-2147483649", "mov r0, #-0xffffffff", "mov r0, #-0xc0000000", "mov r0, #-0xff000000", "mov r0, #-0xffffff00", "mov r0, #-4294967295")
}

// IMMEDIATE by two values: the bits as they stand, whether they are the least or not.
func TestTurnedImmediates(t *testing.T) {
	for n := range 256 {
		for turn := 0; turn <= 30; turn += 2 {
			imm := uint32(128*turn + n)
			checkWords(t, 0, map[string]uint32{fmt.Sprintf("mvn r3, #%d, %d", n, turn): 0xE3E03000 | imm})
		}
	}
	checkWords(t, 0, map[string]uint32{"mov r0, #4, 30": 0xE3A00F04, "mov r0, #'a', '\\x02'": 0xE3A00161, "mov r0, #-0, -0": 0xE3A00000, "msr spsr_f, #0xf, 4": 0xE368F20F, "tst r1, #1, 0": 0xE3110001})
}

// OP2: every shift, by every number, and by a register.
func TestShifts(t *testing.T) {
	for kind, name := range []string{"lsl", "lsr", "asr", "ror"} {
		for n := range 40 {
			line := fmt.Sprintf("mov r1, r2, %s #%d", name, n)
			if n < 32 && (n > 0 || kind == 0) || n == 32 && (kind == 1 || kind == 2) {
				checkWords(t, 0, map[string]uint32{line: 0xE1A01002 | uint32(kind)<<5 | uint32(n%32)<<7})
				address := fmt.Sprintf("ldr r1, [r3, -r2, %s # %d]", name, n)
				checkWords(t, 0, map[string]uint32{address: 0xE7131002 | uint32(kind)<<5 | uint32(n%32)<<7})
			} else {
				checkErrors(t, 0, api.ErrReach, line)
			}
		}
		checkErrors(t, 0, api.ErrReach, "mov r1, r2, "+name+" #-1", "mov r1, r2, "+name+" #-32", "mov r1, r2, "+name+" #64", "mov r1, r2, "+name+" #0xffffffff", "ldr r1, [r3], r2, "+name+" #33")
		checkErrors(t, 0, api.ErrOperand, "mov r1, r2, "+name, "mov r1, r2, "+name+" 1", "mov r1, r2, "+name+" # r3", "mov r1, r2, "+name+" r3, r4", "mov r1, r2, "+name+" #1, #2", "mov r1, r2, "+strings.ToUpper(name)+" #1", "mov r1, r2, "+name+" x", "mov r1, #2, "+name+" #1", "mov r1, r2 "+name+" #1", "mov r1, r2, "+name+" [r3]", "ldr r1, [r3, r2, "+name+" r4]")
		checkWords(t, 0, map[string]uint32{"mov r1, r2, " + name + " r3": 0xE1A01312 | uint32(kind)<<5, "mov r1, r2, " + name + " #'\\x03'": 0xE1A01182 | uint32(kind)<<5})
		checkErrors(t, 0, api.ErrIns, "mov r1, r2, "+name+" pc", "mov pc, r2, "+name+" r3", "mov r1, pc, "+name+" r3", "add r1, pc, r2, "+name+" r3")
	}
	checkWords(t, 0, map[string]uint32{"mov r1, r2, lsl #-0": 0xE1A01002, "mov r1, r2, rrx": 0xE1A01062, "strb r1, [r2], -r3, rrx": 0xE6421063})
	checkErrors(t, 0, api.ErrOperand, "mov r1, r2, rrx #1", "mov r1, r2, rrx r3", "mov r1, r2, asl #1", "mov r1, r2, RRX", "mov r1, r2, r3", "mov r1, r2, rrx, rrx", "mov r1, rrx", "mov r1, r2, #1", "mov r1, r2,")
}

// ADDRESS: each form.
func TestAddresses(t *testing.T) {
	checkWords(t, 0, map[string]uint32{
		"ldr r1, [r2]": 0xE5921000, "ldr r1, [r2, #0]": 0xE5921000, "ldr r1, [r2, #-0]": 0xE5121000, "ldr r1, [r2, #- 0]": 0xE5121000, "ldr r1, [r2, #-'\\0']": 0xE5121000, "ldr r1, [r2, #0x0]": 0xE5921000,
		"ldr r1, [r2, #0]!": 0xE5B21000, "ldr r1, [r2, #-0]!": 0xE5321000, "ldr r1, [r2], #0": 0xE4921000, "ldr r1, [r2], #-0": 0xE4121000,
		"ldr r1, [r2, #4095]": 0xE5921FFF, "ldr r1, [r2, #-4095]": 0xE5121FFF, "str r1, [r2, #1]!": 0xE5A21001, "str r1, [r2, #-1]!": 0xE5221001, "strb r1, [r2], #1": 0xE4C21001, "strb r1, [r2], #-1": 0xE4421001, "ldrb r1, [pc, #-8]": 0xE55F1008,
		"ldr r1, [r2, r3]": 0xE7921003, "ldr r1, [r2, +r3]": 0xE7921003, "ldr r1, [r2, + r3]": 0xE7921003, "ldr r1, [r2, -r3]": 0xE7121003, "ldr r1, [r2, r3]!": 0xE7B21003, "ldr r1, [r2, -r3]!": 0xE7321003, "ldr r1, [r2], r3": 0xE6921003, "ldr r1, [r2], +r3": 0xE6921003, "ldr r1, [r2], -r3": 0xE6121003,
		"str r1, [r2, r3, lsl #2]": 0xE7821103, "str r1, [r2, -r3, lsr #32]!": 0xE7221023, "strb r1, [r2], +r3, asr #31": 0xE6C21FC3, "ldrb r1, [r2], -r3, ror #1": 0xE65210E3, "ldr r1, [r2, r3, rrx]": 0xE7921063, "ldr r1, [r2, r3, lsl #0]": 0xE7921003,
		"ldrh r1, [r2]": 0xE1D210B0, "ldrh r1, [r2, #255]": 0xE1D21FBF, "ldrh r1, [r2, #-255]": 0xE1521FBF, "strh r1, [r2, #0x12]!": 0xE1E211B2, "strh r1, [r2], #-0x12": 0xE04211B2, "ldrsb r1, [r2, #-0]": 0xE15210D0, "ldrsh r1, [r2], #0": 0xE0D210F0,
		"ldrh r1, [r2, r3]": 0xE19210B3, "ldrsb r1, [r2, -r3]!": 0xE13210D3, "ldrsh r1, [r2], +r3": 0xE09210F3, "strh r1, [r2], -r3": 0xE00210B3, "ldrsh r1, [r2, + r3]!": 0xE1B210F3,
		"ldr pc, [r1]": 0xE591F000, "ldr r0, [pc]": 0xE59F0000,
	})
	checkErrors(t, 0, api.ErrReach, "ldr r1, [r2, #4096]", "ldr r1, [r2, #-4096]", "strb r1, [r2], #4096", "str r1, [r2, #-4096]!", "ldrb r1, [r2], #0xffffffff", "ldrb r1, [r2, #-0xffffffff]", "ldrh r1, [r2, #256]", "strh r1, [r2, #-256]", "ldrsb r1, [r2], #256", "ldrsh r1, [r2, #-256]!", "ldrsh r1, [r2, #4095]", "ldr r1, [r2, #0x80000000]", "ldr r1, [r2, #-0x80000000]")
	checkErrors(t, 0, api.ErrIns, "ldr r0, [r0], #4", "ldr r0, [r0, #4]!", "ldr r0, [pc, #4]!", "ldr r0, [pc], #4", "str pc, [r0]", "ldrb pc, [r0]", "ldr r0, [r1, pc]", "ldrh r0, [r1, -pc]", "strh r0, [r0], r1", "ldr r0, [r0, #0]!", "ldrh pc, [r1]", "strb pc, 8")
}

// ADDRESS: an address alone, for those that may have it, from the place of the instruction.
func TestAddressAlone(t *testing.T) {
	checkWords(t, 0, map[string]uint32{"ldr r1, 8": 0xE59F1000, "ldr r1, 12": 0xE59F1004, "ldr r1, 7": 0xE51F1001, "str r1, 0": 0xE50F1008, "ldrb r1, 4103": 0xE5DF1FFF, "strb r1, -4087": 0xE54F1FFF, "ldr r1, 0xfffff009": 0xE51F1FFF, "ldr r1, -0": 0xE51F1008, "ldr r1, 'a'": 0xE59F1059, "ldr pc, 8": 0xE59FF000})
	checkErrors(t, 0, api.ErrReach, "ldr r1, 4104", "str r1, -4088", "ldrb r1, 0xfffff008", "strb r1, 0x80000008", "ldr r1, 0x80000007", "ldr r1, -2147483648", "ldr r1, -2147483649", "ldr r1, -4294967288", "ldr r1, -0xffffffff")
	checkWords(t, 0x8000, map[string]uint32{"ldr r1, 0x8000": 0xE51F1008, "ldr r1, 0x9007": 0xE59F1FFF, "str r1, 0x7009": 0xE50F1FFF, "strb r1, 0x8008": 0xE5CF1000})
	checkErrors(t, 0x8000, api.ErrReach, "ldr r1, 0x9008", "str r1, 0x7008", "ldr r1, 0")
	checkWords(t, 0xFFFFFFFC, map[string]uint32{"ldr r1, 0": 0xE51F1004, "ldr r1, 4": 0xE59F1000, "ldr r1, 4099": 0xE59F1FFF, "ldr r1, -4": 0xE51F1008, "ldr r1, 0xfffffffc": 0xE51F1008, "ldr r1, -4091": 0xE51F1FFF})
	checkErrors(t, 0xFFFFFFFC, api.ErrReach, "ldr r1, 4100", "ldr r1, -4092", "ldr r1, -4294967295")
	checkWords(t, 2, map[string]uint32{"ldr r1, 9": 0xE51F1001, "ldr r1, 11": 0xE59F1001})
}

// b and bl: over both ends of the addresses, at both ends of their reach, and what is no multiple of 4.
func TestBranches(t *testing.T) {
	checkWords(t, 0, map[string]uint32{"b 0": 0xEAFFFFFE, "bl 0": 0xEBFFFFFE, "b 8": 0xEA000000, "b 4": 0xEAFFFFFF, "b 0x2000004": 0xEA7FFFFF, "b -0x1fffff8": 0xEA800000, "b 0xfe000008": 0xEA800000, "bl 0xfffffffc": 0xEBFFFFFD, "b -4": 0xEAFFFFFD, "b 'd'": 0xEA000017, "b -0": 0xEAFFFFFE})
	checkErrors(t, 0, api.ErrReach, "b 1", "b 2", "b 3", "b 6", "bl 9", "b 0x2000008", "b 0x2000005", "b -0x1fffffc", "b 0xfe000004", "b 0xfe000007", "b 0x80000000", "b -2147483648", "b -2147483652", "b -4294967288", "b -4294967295", "b 0xffffffff", "bl 0x80000008")
	checkWords(t, 0xFFFFFFF8, map[string]uint32{"b 0": 0xEA000000, "b 4": 0xEA000001, "b 0xfffffff8": 0xEAFFFFFE, "b -8": 0xEAFFFFFE, "b 0x1fffffc": 0xEA7FFFFF, "b 0xfe000000": 0xEA800000, "bl -0x2000000": 0xEB800000})
	checkErrors(t, 0xFFFFFFF8, api.ErrReach, "b 0x2000000", "b 0xfdfffffc", "b 1", "b -4294967292")
	checkWords(t, 0xFFFFFFFC, map[string]uint32{"b 0": 0xEAFFFFFF, "b 4": 0xEA000000, "b 0xfffffffc": 0xEAFFFFFE})
	checkWords(t, 0x7FFFFFFC, map[string]uint32{"b 0x80000000": 0xEAFFFFFF, "b -2147483648": 0xEAFFFFFF, "b 0x80000004": 0xEA000000, "b 0x7ffffffc": 0xEAFFFFFE})
	checkWords(t, 2, map[string]uint32{"b 2": 0xEAFFFFFE, "b 10": 0xEA000000})
	checkErrors(t, 2, api.ErrReach, "b 0", "b 4", "b 8")
}

// adr: a sum with the PC, or a difference; its word must have twelve bits.
func TestNear(t *testing.T) {
	checkWords(t, 0, map[string]uint32{"adr r0, 16": 0xE28F0008, "adr r0, 0": 0xE24F0008, "adr r0, 8": 0xE28F0000, "adreq pc, 7": 0x024FF001, "adr r0, 263": 0xE28F00FF, "adr r0, 264": 0xE28F0C01, "adr r0, -248": 0xE24F0C01, "adr r0, -247": 0xE24F00FF, "adr r0, 0x80000008": 0xE24F0102, "adr r0, 0x7f000008": 0xE28F047F, "adr r0, -2130706424": 0xE24F047F, "adr r0, 0x40000008": 0xE28F0101, "adr r0, 0xc0000008": 0xE24F0101})
	checkErrors(t, 0, api.ErrReach, "adr r0, 265", "adr r0, -249", "adr r0, 0x80000007", "adr r0, 0x80000009", "adr r0, -2147483649", "adr r0, -4294967040", "adr r0, -4294967288")
	checkWords(t, 0xFFFFFFF8, map[string]uint32{"adr r0, 0": 0xE28F0000, "adr r0, 255": 0xE28F00FF, "adr r0, -1": 0xE24F0001, "adr r0, 0x80000000": 0xE24F0102})
	checkWords(t, 3, map[string]uint32{"adr r0, 11": 0xE28F0000})
	if i, err := asm.Line("adrne r3, 4", 0); err != nil || i != (api.Ins{Cond: 1, Op: api.OpSUB, Form: api.FormImm, Rd: 3, Rn: 15, Imm: 4}) {
		t.Error(i, err)
	}
}

// LIST: single registers, runs, a run of one, runs that fall, registers twice.
func TestLists(t *testing.T) {
	for list, bits := range map[string]uint32{
		"{r0}": 1, "{pc}": 0x8000, "{r0-pc}": 0xFFFF, "{r0-r0}": 1, "{pc-r15}": 0x8000, "{r1-r2}": 6, "{r3, r1, r2}": 14, "{pc, r0}": 0x8001, "{r4-r7, r0-r2}": 0xF7, "{ r0 - r3 , lr }": 0x400F, "{r0,r2,r4,r6,r8,r10,r12,lr}": 0x5555, "{r12-lr}": 0x7000, "{sp}": 0x2000, "{r13, r14}": 0x6000, "{r11-r13}": 0x3800, "{r14-r15}": 0xC000,
	} {
		checkWords(t, 0, map[string]uint32{"ldmia r10, " + list: 0xE89A0000 | bits, "ldmdbeq r9, " + list: 0x09190000 | bits})
		if bits < 0x2000 || bits == 0x400F {
			checkWords(t, 0, map[string]uint32{"push " + list: 0xE92D0000 | bits, "popne" + list: 0x18BD0000 | bits, "stmdb sp!, " + list: 0xE92D0000 | bits})
		}
	}
	checkErrors(t, 0, api.ErrOperand, "push {r1, r1}", "push {r1-r3, r2}", "push {r2, r1-r3}", "push {r3-r1}", "push {pc-r0}", "push {r14, lr}", "push {r1-r2, r2-r3}", "push {r0-pc, r0}", "push {r1, r2-r1}", "push {r5-r4, r1}")
	checkErrors(t, 0, api.ErrIns, "push {pc}", "push {sp}", "pop {sp}", "ldmia r1!, {r1}", "ldmia pc, {r1}", "stmia r0, {r0, pc}", "stmia r0!, {r0-r3}", "ldmia pc!, {r0}")
	checkWords(t, 0, map[string]uint32{"ldmia r1, {r1}": 0xE8910002, "stmia r1, {r0-r1}": 0xE8810003, "ldmia r1!, {r0, r2}": 0xE8B10005})
}

// MASK: each, of both status registers.
func TestMasks(t *testing.T) {
	for mask := uint32(1); mask < 16; mask++ {
		letters := ""
		for n, letter := range "fsxc" {
			if mask>>(3-n)&1 == 1 {
				letters += string(letter)
			}
		}
		checkWords(t, 0, map[string]uint32{"msr cpsr_" + letters + ", r1": 0xE120F001 | mask<<16, "msrlt spsr_" + letters + ", r1": 0xB160F001 | mask<<16, "msr cpsr_" + letters + ", #1": 0xE320F001 | mask<<16, "msr spsr_" + letters + ", #1, 2": 0xE360F101 | mask<<16})
		for _, spoilt := range []string{letters + letters, letters + "_", letters + "f", "c" + letters, strings.ToUpper(letters), letters + "0", letters + "é"} {
			checkErrors(t, 0, api.ErrOperand, "msr cpsr_"+spoilt+", r1")
		}
	}
	checkErrors(t, 0, api.ErrIns, "msr cpsr_f, pc")
}

// Two things that are wrong at once: the one that P2102 names first.
func TestOrder(t *testing.T) {
	checkErrors(t, 0, api.ErrSyntax, "fly $", "fly 0x", "mov r0 $", "mov r0, #x $", "mov r0, #257 9a", "ldr r0, [r0], #4 'ab'", "$ fly", "5 5a", "nop \"", "b x $", "# '")
	checkErrors(t, 0, api.ErrMnemonic, "fly r0, #x", "fly #257", "fly", "movx r0", "5 nop", "x: nop r0", ".word x", "ldm r0, {r1, r1}")
	checkErrors(t, 0, api.ErrOperand, "mov r0, #x, 1, 2", "mov r0, #257, 1, 2", "mov x, #257", "ldr r0, [r0], #x, 2", "b x 1", "b x, 2", "mov r0, r1, lsl #x, r2", "mcr p15, #8, r0, c1, c0, x", "mcr p15, #x, pc, c1, c0, 0", "push {pc, r1, pc}", "ldr pc, [pc], #9999]", "adr r16, x", "movw pc, #65536, 2", "svc #x, x")
	checkErrors(t, 0, api.ErrLabel, "mov r0, #256, x", "mov r0, #x, 3", "mov r0, #x", "mcr p15, #8, r0, c1, c0, #x", "mcr p15, #x, r0, c1, c0, #8", "mcr p15, #x, pc, c1, c0, #0", "ldr r0, [r0], #x", "str pc, x", "b x+1", "bl x-4294967295", "ldr r1, x+'a'", "adr pc, x - 2", "svc #x+0x1000000", "bkpteq #x", "add r0, r1, r2, lsl #x", "ldr r1, [r1, r2, ror #nop]!", "uxtb r0, pc, ror #x", "movw pc, #start", "b nop", "b lsl", "b R0", "b r16", "b cpsr", "b p15", "b Ω_1", "b sixteen_runes_xx", "b eq+1")
	checkErrors(t, 0, api.ErrReach, "mov r0, #257", "movw pc, #65536", "ldr r0, [r0], #4096", "mcr p15, #8, pc, c1, c0, #0", "str pc, [r0, #4096]", "uxtb pc, r0, ror #1", "bkpteq #65536", "add pc, r1, #257", "strb pc, 0x10000", "mov r0, #1, 3")
	checkErrors(t, 0, api.ErrIns, "movw pc, #1", "ldr r0, [r0], #4", "bkpteq #1", "mcr p15, #0, pc, c1, c0, #0", "mul r0, r1, pc", "umull r0, r0, r1, r2", "clz pc, r0", "uxtb r0, pc", "bx pc", "blx pc", "mrs pc, cpsr", "msr cpsr_f, pc", "mla r0, r1, r2, pc", "bkptne #0")
	checkWords(t, 0, map[string]uint32{"bkptal #1": 0xE1200071, "add pc, pc, pc": 0xE08FF00F, "mov pc, #0": 0xE3A0F000})
}

// A value of Line is a number: what it is counts, however it is written.
func TestLongLines(t *testing.T) {
	long := strings.Repeat(" ", 100000)
	checkWords(t, 0, map[string]uint32{long + "nop" + long: 0xE320F000, "svc #" + strings.Repeat("0", 100000) + "7": 0xEF000007, "nop @" + strings.Repeat("\xff", 100000): 0xE320F000})
	checkErrors(t, 0, api.ErrMnemonic, strings.Repeat("a", 1<<20), strings.Repeat("add", 100000))
	checkErrors(t, 0, api.ErrOperand, strings.Repeat("b ", 100000), "push "+strings.Repeat("{", 100000), "svc #"+strings.Repeat("-", 100000), "nop "+strings.Repeat("nop ", 100000))
	checkErrors(t, 0, api.ErrSyntax, strings.Repeat("a ", 100000)+"$", "\""+strings.Repeat("a", 100000), "'"+strings.Repeat("a", 100000))
}
