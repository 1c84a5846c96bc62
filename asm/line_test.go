package asm_test

import (
	"fmt"
	"slices"
	"strings"
	"testing"

	"atlas/api"
	"atlas/asm"
	"atlas/isa"
)

// wordOf: the word of a line's instruction, or the error's number.
func wordOf(t *testing.T, line string, at uint32) (uint32, api.Errno) {
	t.Helper()
	i, err := asm.Line(line, at)
	e, n := asm.Code(err)
	if n != 0 {
		t.Errorf("Line(%q, %#x): at line %d", line, at, n)
	}
	if e != api.OK {
		if i != (api.Ins{}) {
			t.Errorf("Line(%q, %#x): %+v beside error %d", line, at, i, e)
		}
		return 0, e
	}
	w, e := isa.Encode(i)
	if e != api.OK {
		t.Errorf("Line(%q, %#x) = %+v, which is not right", line, at, i)
	}
	return w, e
}

// checkWords: of lines the words.
func checkWords(t *testing.T, at uint32, lines map[string]uint32) {
	t.Helper()
	for line, want := range lines {
		if w, e := wordOf(t, line, at); w != want || e != api.OK {
			t.Errorf("Line(%.100q, %#x): %#x, %d, want %#x", line, at, w, e, want)
		}
	}
}

// checkErrors: of lines the error.
func checkErrors(t *testing.T, at uint32, want api.Errno, lines ...string) {
	t.Helper()
	for _, line := range lines {
		if w, e := wordOf(t, line, at); e != want {
			t.Errorf("Line(%.100q, %#x): %#x, error %d, want %d", line, at, w, e, want)
		}
	}
}

// The chapter's examples 1, 3, 4, 5.
func TestLineExamples(t *testing.T) {
	for line, want := range map[string]api.Ins{
		"adds r0, r1, #255":   {Cond: 14, Op: api.OpADD, S: true, Form: api.FormImm, Rn: 1, Imm: 255},
		"mov r0, #0xff000000": {Cond: 14, Op: api.OpMOV, Form: api.FormImm, Imm: 0x4FF},
		"ldr r0, [r1], #-4":   {Cond: 14, Op: api.OpLDR, Form: api.FormImm, Rn: 1, Imm: 4},
		"bls 0":               {Cond: 9, Op: api.OpB, Imm: 0xFFFFFFF8},
		"movs pc, lr":         {Cond: 14, Op: api.OpMOV, S: true, Form: api.FormReg, Rd: 15, Rm: 14},
		"msr cpsr_fc, r1":     {Cond: 14, Op: api.OpMSR, Form: api.FormReg, Rm: 1, Amount: 9},
	} {
		if i, err := asm.Line(line, 0); err != nil || i != want {
			t.Errorf("Line(%q, 0) = %+v, %v, want %+v", line, i, err, want)
		}
	}
	checkWords(t, 0, map[string]uint32{"str lr, [sp, #-4]!": 0xE52DE004, "ldmia sp!, {r4, pc}": 0xE8BD8010, "pop {r4, pc}": 0xE8BD8010, "mcr p15, #0, r0, c1, c0, #0": 0xEE010F10})
	if i, err := asm.Line("b 0x8000", 0x8000); err != nil || i != (api.Ins{Cond: 14, Op: api.OpB, Imm: 0xFFFFFFF8}) {
		t.Error(i, err)
	}
	checkErrors(t, 0, api.ErrReach, "mov r0, #257", "mov r0, #-1", "b 2")
	checkErrors(t, 0, api.ErrLabel, "b there")
}

// P2102, Tokens: blanks between tokens or none, and the two signs that end a line.
func TestBlanks(t *testing.T) {
	const want = 0xE5A1000C // str r0, [r1, #12]!
	for _, line := range []string{"str r0,[r1,#12]!", "\tstr\tr0\t,\t[\tr1\t,\t#\t12\t]\t!\t", "\r str \r r0 ,\r[ r1 , # 12 ] !\r", "str r0, [r1, #12]!@", "str r0, [r1, #12]!;", "str r0, [r1, #12]! @ ; \" ' \xff $", "str r0, [r1, #12]! ; @ 9x"} {
		checkWords(t, 0, map[string]uint32{line: want})
	}
	checkWords(t, 0, map[string]uint32{"svc #'@'": 0xEF000040, "svc #';'@;": 0xEF00003B, "svc #' '": 0xEF000020, "svc#1": 0xEF000001, "svc #1@2": 0xEF000001, "svc # - 0": 0xEF000000})
	checkErrors(t, 0, api.ErrSyntax, "", " ", "\t\r ", "@", ";", " @ nop", ";nop", "\u00a0nop", "nop\u00a0", "nop\u2003", "nop\u3000", "nop\n", "\n", "nop\v", "nop\f", "nop\x00", "nop \x80", "nop $", "nop (", "nop &", "nop =", "nop \\", "nop /", "nop *", "nop ×", "nop ÷", "nop \ufffd", "nop ~", "nop `", "nop <", "nop ?")
	checkErrors(t, 0, api.ErrMnemonic, "no p", "s vc #1", ".nop", "_nop", "nop_", "nop1", "nopé", "., nop", "_", ".", "#", "5", "'n'", `"nop"`, ", nop", ": nop", "-", "r0", "{}")
	checkErrors(t, 0, api.ErrOperand, "nop.x", "nop.x nop", "nop _", "nop .", "nop'a'", `nop""`, "nop 1", "nop:", "nop !", "nop #", "nop nop", "nop r0", "nop é", "nop[", "nop ]", "nop{", "nop }", "nop+", "nop-", "nop,")
}

// Tokens: every byte, and runes at the edges of what letters are, between tokens and in each of them.
func TestEveryByte(t *testing.T) {
	t.Parallel()
	var all []string
	for b := range 256 {
		all = append(all, string([]byte{byte(b)}))
	}
	for _, r := range []rune{0x80, 0xBF, 0xC0, 0xD6, 0xD7, 0xD8, 0xF6, 0xF7, 0xF8, 0x24F, 0x250, 0x390, 0x391, 0x3A1, 0x3A2, 0x3A3, 0x3C9, 0x3CA, 0x660, 0x2003, 0x2028, 0x3000, 0xFEFF, 0xFFFD, 0x10000, 0x10FFFF} {
		all = append(all, string(r))
	}
	for _, x := range all {
		for _, line := range []string{"%", "%nop", "nop%", "nop %", "% nop", "b %", "b a%", "b a%1", "b .%", "svc #%", "svc #1%", "svc #0%", "svc #0x%", "svc #'%'", "svc #'\\%'", "svc #'\\x%1'", "svc #'\\x1%'", "nop \"%\"", "nop \"\\%\"", "nop \"\\x%0\"", "msr cpsr_%, r0", "msr cpsr_f%, r0", "mov %, r0", "mov r%, r0", "ld%ia r0, {r1}", "b% 0", "add% r0, r0, r0", "ldr r0, [r1]%"} {
			checkLine(t, strings.ReplaceAll(line, "%", x), 0)
		}
		for _, text := range []string{"nop\n%", "nop\n%: nop", "nop\na%: nop", "nop\n.%", "nop\n.asci% \"a\"", "nop\n.ascii \"%\"", "nop\n.byte %"} {
			checkProgram(t, strings.ReplaceAll(text, "%", x))
		}
	}
}

// Tokens: numbers in each form, and beyond 2 to the 32nd.
func TestNumbers(t *testing.T) {
	for text, n := range map[string]uint32{
		"0": 0, "007": 7, "1_000": 1000, "0x1F": 31, "0xfF": 255, "0x0_0": 0, "0x00_ab_CD": 0xABCD, "00000000000000000000000000000000012": 12, "65_535": 65535,
		"'a'": 'a', "'Ω'": 0x3A9, "'~'": '~', "'\"'": '"', "'@'": '@', "'\\n'": 10, "'\\t'": 9, "'\\0'": 0, "'\\\\'": '\\', "'\\''": '\'', "'\\\"'": '"', "'\\x41'": 0x41, "'\\xfF'": 255, "'\\x00'": 0,
		"'\u07ff'": 0x7FF, "'\uffff'": 0xFFFF, "'\ufffd'": 0xFFFD, "'\n'": 10, "'\t'": 9, "'\r'": 13, "'\x00'": 0, "' '": 32, "'\u00a0'": 0xA0, "'×'": 0xD7, "'0'": 48,
	} {
		checkWords(t, 0, map[string]uint32{"movw r1, #" + text: 0xE3001000 | n>>12<<16 | n&0xFFF, "svc #" + text: 0xEF000000 | n})
	}
	checkErrors(t, 0, api.ErrReach, "svc #0xffff_ffff", "svc #4294967295", "svc #04294967295", "movw r0, #'\U00010000'", "movw r0, #'\U0010ffff'", "movw r0, #'\U00010348'")
	for _, text := range []string{"4294967296", "0x1_0000_0000", "0x100000000", "1099511627775", "1099511627776", "99999999999999999999999999", "0xffffffffffffffffff",
		"0x", "1__2", "1_", "0x_1", "0X1", "1x", "1a", "0b1", "1é", "0xg", "0x1_", "12ab", "1_a", "0_x1", "1Ω",
		"''", "'''", "'", "'a", "'ab'", "'a 'b'", "'\\'", "'\\q'", "'\\x'", "'\\x4'", "'\\x4g'", "'\\xg4'", "'\\x123'", "'\\x4_'", "'\\x'41", "'\\X41'", "'\\N'", "'\\1'", "'\\00'", "'\\nn'", "'\\ n'", "'\\a'", "'\\r'",
		"'\xff'", "'\x80'", "'\xc3'", "'\xe2\x82'", "'\xed\xa0\x80'", "'\xf4\x90\x80\x80'", "'\xc0\x80'", "'a\xff'", "'\\", "'\\x", "'\\x4", "'\\x41", "'\\n", "'é",
		"\"", "\"a", "\"a\\\"", "\"\\", "\"\\q\"", "\"\\x4\"", "\"\\x4\" \"", "\"\\xzz\"", "\"\\", "\"a\\x", "\"\\x4"} {
		checkErrors(t, 0, api.ErrSyntax, "svc #"+text, "nop "+text, text)
	}
	checkErrors(t, 0, api.ErrOperand, "svc #\"a\"", "svc \"\"", "svc #1 \"\xff\"", "svc #1 \"\\n\\t\\0\\\\\\'\\\"\\x41\"", "svc #1 \"@;'\"", "svc #1 \"\n\"", "svc #'a''b'", "svc #'a'b", "svc #1 1", "svc #+1", "svc #--1", "svc #-", "svc #1+1", "svc #'a'+1", "svc #-a", "svc #1-1")
}

// An instruction: the name with s, with each condition, with al.
func TestMnemonics(t *testing.T) {
	operands := map[string]string{"and": "r1, r2, r3", "tst": "r2, r3", "mov": "r1, r3", "movw": "r1, #2", "mul": "r1, r3, r4", "umull": "r5, r1, r3, r4", "clz": "r1, r3", "uxtb": "r1, r3", "ldr": "r1, [r2]", "ldrsh": "r1, [r2]",
		"ldmda": "r2, {r1}", "stmia": "r2, {r1}", "b": "8", "bl": "8", "bx": "r3", "blx": "r3", "svc": "#1", "mrs": "r1, cpsr", "msr": "cpsr_f, r1", "mcr": "p15, #0, r1, c2, c3, #4", "nop": "", "wfi": "", "adr": "r1, 8", "push": "{r1}", "pop": "{r1}"}
	for name, rest := range operands {
		plain, e := wordOf(t, name+" "+rest, 0)
		if e != api.OK || plain>>28 != 14 {
			t.Fatal(name, e)
		}
		for cond, word := range conds {
			want := plain&^(15<<28) | uint32(min(cond, 14))<<28
			checkWords(t, 0, map[string]uint32{name + strings.TrimSpace(word) + " " + rest: want})
			if slices.Contains(withS, name) {
				checkWords(t, 0, map[string]uint32{name + "s" + strings.TrimSpace(word) + " " + rest: want | 1<<20})
				if cond < 14 {
					checkErrors(t, 0, api.ErrMnemonic, name+word+"s "+rest)
				}
			}
		}
		if !slices.Contains(withS, name) && name != "bl" { // bls is another one
			checkErrors(t, 0, api.ErrMnemonic, name+"s "+rest, name+"seq "+rest)
		}
		checkErrors(t, 0, api.ErrMnemonic, strings.ToUpper(name)+" "+rest, strings.ToUpper(name[:1])+name[1:]+" "+rest, name+"EQ "+rest, name+"nv "+rest, name+"hs "+rest, name+"lo "+rest, name+"q "+rest, name+"eqq "+rest, name+"eqal "+rest, name+"aleq "+rest, name+"_ "+rest, "a"+name+" "+rest, "'a' "+name)
	}
	if len(ops) != 61 {
		t.Errorf("%d names", len(ops))
	}
	checkErrors(t, 0, api.ErrMnemonic, "tsts r0, r1", "teqs r0, r1", "cmps r0, r1", "cmns r0, r1", "mrss r0, cpsr", "msrs cpsr_f, r0", "clzs r0, r1", "movws r0, #1", "ldrs r0, [r1]", "adrs r0, 8", "pushs {r0}", "S r0", "s", "eq", "sub_", "ldm r0, {r1}", "stm r0, {r1}", "ldmeq r0, {r1}", "ldmeqia r0, {r1}", "ldmfd r0, {r1}", "ldmi r0, {r1}", "addeqs r0, r0, r0", "addss r0, r0, r0", "lsl r0, r1, #1", "blss 8", "bss 8", "mls r0, r1, r2, r3", "x: nop", "fly")
}

// Where a word could be read in two ways it is read with the longer name.
func TestTwoWays(t *testing.T) {
	checkWords(t, 0, map[string]uint32{
		"bls 8": 0x9A000000, "blt 8": 0xBA000000, "ble 8": 0xDA000000, "bleq 8": 0x0B000000, "blls 8": 0x9B000000, "bllt 8": 0xBB000000, "blle 8": 0xDB000000, "bl 8": 0xEB000000, "bal 8": 0xEA000000, "blal 8": 0xEB000000, "bcs 8": 0x2A000000, "bcc 8": 0x3A000000, "bvs 8": 0x6A000000, "blvs 8": 0x6B000000,
		"bic r0, r0, r0": 0xE1C00000, "bics r0, r0, r0": 0xE1D00000, "biccs r0, r0, r0": 0x21C00000, "bicscs r0, r0, r0": 0x21D00000, "bicsls r0, r0, r0": 0x91D00000, "bicls r0, r0, r0": 0x91C00000,
		"bxls r1": 0x912FFF11, "blxls r1": 0x912FFF31, "bxeq r1": 0x012FFF11,
		"movs r0, r0": 0xE1B00000, "movls r0, r0": 0x91A00000, "movsls r0, r0": 0x91B00000, "movt r0, #0": 0xE3400000, "movtlt r0, #0": 0xB3400000, "movlt r0, r0": 0xB1A00000, "movslt r0, r0": 0xB1B00000, "movwvs r0, #0": 0x63000000, "movvs r0, r0": 0x61A00000, "movsvs r0, r0": 0x61B00000,
		"mlas r0, r1, r2, r3": 0xE0303291, "mlals r0, r1, r2, r3": 0x90203291, "mlasls r0, r1, r2, r3": 0x90303291, "muls r0, r1, r2": 0xE0100291, "mulls r0, r1, r2": 0x90000291, "mulsle r0, r1, r2": 0xD0100291, "mullt r0, r1, r2": 0xB0000291, "smulls r1, r0, r1, r2": 0xE0D01291, "smullls r1, r0, r1, r2": 0x90C01291, "smlals r1, r0, r1, r2": 0xE0F01291, "umlalls r1, r0, r1, r2": 0x90A01291,
		"sbcs r0, r0, r0": 0xE0D00000, "sbccs r0, r0, r0": 0x20C00000, "sbcscs r0, r0, r0": 0x20D00000, "subs r0, r0, r0": 0xE0500000, "rscs r0, r0, r0": 0xE0F00000, "adcs r0, r0, r0": 0xE0B00000, "adccc r0, r0, r0": 0x30A00000, "addcs r0, r0, r0": 0x20800000,
		"strhi r0, [r1]": 0x85810000, "strh r0, [r1]": 0xE1C100B0, "strhhi r0, [r1]": 0x81C100B0, "ldrhi r0, [r1]": 0x85910000, "ldrsbls r0, [r1]": 0x91D100D0, "ldrls r0, [r1]": 0x95910000, "strls r0, [r1]": 0x95810000, "teqeq r0, r0": 0x01300000, "cmppl r0, r0": 0x51500000, "svcvc #0": 0x7F000000, "svccs #0": 0x2F000000,
		"adral r0, 8": 0xE28F0000, "popls {r0}": 0x98BD0001, "pushle {r0}": 0xD92D0001, "rsbs r0, r0, r0": 0xE0700000,
	})
	for word, all := range mnemonics {
		if len(all) > 1 {
			t.Errorf("%s can be read as %+v", word, all)
		}
	}
}

// Registers are written small, by their names or their numbers.
func TestRegisters(t *testing.T) {
	for n, name := range registers {
		reg := uint32(n - n/16*3)
		checkWords(t, 0, map[string]uint32{
			"add " + name + ", r1, r2": 0xE0810002 | reg<<12,
			"add r0, " + name + ", r2": 0xE0800002 | reg<<16,
			"add r0, r1, " + name:      0xE0810000 | reg,
		})
	}
	checkErrors(t, 0, api.ErrOperand, "mov R0, r1", "mov r0, R1", "mov SP, r1", "mov r0, Pc", "mov r16, r1", "mov r01, r1", "mov r, r1", "mov r1_, r1", "mov r-1, r1", "mov r 1, r1", "mov fp, r1", "mov a1, r1", "mov ip, r1", "mov r00, r1", "mov c1, r1", "mov 1, r1", "mov #1, r1", "mov r0, lR", "mov _r0, r1", "mov .r0, r1")
}

// A number of operands too few, one too many, and one of another form, in each row.
func TestForms(t *testing.T) {
	for row, lines := range map[string][]string{
		"and":   {"and", "and r0", "and r0, r1", "and r0, r1,", "and r0 r1 r2", "and r0, r1 r2", "and r0, r1, r2,", "and r0, r1, r2, r3", "and r0, r1, #1, 2, 4", "and r0, #1", "and #1, r0, r1", "and r0, r1, 1", "and r0, r1, [r2]", "and r0, r1, x", "and, r0, r1, r2", "and r0, r1, #1, #2", "and r0, r1, #", "and r0, r1, # r2", "and r0, r1, r2 lsl #1", "and r0, r1, #1, lsl #1"},
		"tst":   {"tst", "tst r0", "tst r0,", "tst r0, r1, r2", "tst r0, r1, r2, lsl #1", "tst #1", "tst r0, 1", "tst r0, {r1}"},
		"mov":   {"mov", "mov r0", "mov r0,", "mov r0, r1, r2", "mov r0, r1, r2, lsl #1", "mov #1, #1", "mov r0, 1", "mov r0, x", "mov r0, \"a\"", "mov r0, #1,", "mov r0, #1, 2,", "mov r0 #1"},
		"movw":  {"movw r0", "movw r0, r1", "movw r0, 1", "movw r0, #1, 2", "movw #1", "movw r0, #", "movt r0", "movt r0, r1", "movt r0, #1, #2"},
		"mul":   {"mul r0, r1", "mul r0, r1, r2, r3", "mul r0, r1, #1", "mla r0, r1, r2", "mla r0, r1, r2, r3, r4", "mla r0, r1, r2, #3", "mul r0, r1,", "mul r0, r1, r2,"},
		"umull": {"umull r0, r1, r2", "umull r0, r1, r2, r3, r4", "umlal r0, r1, r2, #3", "smull r0, r1, r2,", "smlal"},
		"clz":   {"clz r0", "clz r0, r1, r2", "clz r0, #1", "clz r0, r1, lsl #1", "rev r0", "rev r0, r1, ror #8", "rev r0, r1 r2"},
		"uxtb":  {"uxtb r0", "uxtb r0, r1, #8", "uxtb r0, r1, lsl #8", "uxtb r0, r1, ror 8", "uxtb r0, r1, ror r2", "uxtb r0, r1, ror", "uxth r0, r1, rrx", "sxtb r0, r1, ror #8, #8", "sxth r0, #1", "uxtb r0, r1,", "uxtb r0, r1, ROR #8", "uxtb r0, r1, ror #8,"},
		"ldr":   {"ldr", "ldr r0", "ldr r0,", "ldr [r1]", "ldr r0, r1", "ldr r0, [r1], ", "ldr r0, [r1", "ldr r0, [r1,]", "ldr r0, [r1, #1", "ldr r0, []", "ldr r0, [#1]", "ldr r0, [r1]!", "ldr r0, [r1], #1!", "ldr r0, [r1, #1]!!", "ldr r0, [r1], #1, 2", "ldr r0, [r1, r2, r3]", "ldr r0, [r1, 1]", "ldr r0, [r1, x]", "ldr r0, [r1, #+1]", "ldr r0, [r1, +#1]", "ldr r0, [r1, -#1]", "ldr r0, [r1, --r2]", "ldr r0, [r1, +-r2]", "ldr r0, [r1, r2, lsl r3]", "ldr r0, [r1], r2, lsl r3", "ldr r0, [r1, r2, lsl 1]", "ldr r0, [r1, r2, lsl]", "ldr r0, [r1, r2, rrx #1]", "ldr r0, [r1] [r2]", "ldr r0, #1", "ldr r0, 1, 2", "ldr r0, [r1, #1, lsl #1]", "ldr r0, {r1}", "ldr r0, .x", "ldr r0, [1]", "ldr r0, [r1, -]", "ldr r0, [r1, + +r2]"},
		"ldrh":  {"ldrh r0", "ldrh r0, [r1]!", "ldrh r0, 8", "strh r0, 8", "ldrsb r0, 8", "ldrsh r0, 8", "ldrh r0, x", "ldrh r0, [r1, r2, lsl #1]", "ldrh r0, [r1, r2, lsl #0]", "strh r0, [r1], r2, lsl #1", "ldrsb r0, [r1, r2, rrx]", "ldrsh r0, [r1, -r2, ror #1]!", "ldrh r0, [r1, r2", "ldrh r0, [r1, r2, r3]", "ldrh r0, r1", "ldrh r0, [r1], #1, 2"},
		"ldm":   {"ldmia", "ldmia r0", "ldmia r0,", "ldmia r0, {}", "ldmia r0, r1", "ldmia {r1}", "ldmia r0 {r1}", "ldmia r0!", "ldmia !, {r1}", "ldmia r0, ! {r1}", "ldmia r0!! , {r1}", "ldmia r0, {r1}!", "ldmia r0, {r1} r2", "ldmia r0, {r1", "ldmia r0, r1}", "ldmia r0, {r1,}", "ldmia r0, {,r1}", "ldmia r0, {r1 r2}", "ldmia r0, {#1}", "ldmia r0, {1}", "ldmia r0, {r1-}", "ldmia r0, {-r1}", "ldmia r0, {r1-r2-r3}", "ldmia r0, {r2-r1}", "ldmia r0, {pc-lr}", "ldmia r0, {r1, r1}", "ldmia r0, {r1-r3, r3}", "ldmia r0, {r3, r1-r3}", "ldmia r0, {r1-r4, r2-r3}", "ldmia r0, {sp, r13}", "ldmia r0, {r1-x}", "ldmia r0, [r1]", "ldmia [r0], {r1}", "stmdb sp!, {r1}, {r2}"},
		"push":  {"push", "push r1", "push sp!, {r1}", "push {}", "push {r1, r1}", "push {r1}, r2", "push {r1}!", "pop", "pop {r1", "pop {r3-r2}", "pop r0, {r1}"},
		"b":     {"b", "b r0", "b #8", "b [r0]", "b 8, 8", "b 8 8", "b \"a\"", "b .x", "b _x", "b seventeen_runes_x", "b +8", "b 8+8", "b x+y", "b x+", "b x-", "b -x", "b x+-1", "b x++1", "b x+1+1", "b sp", "b lr+4", "b x 1", "b --8", "bl", "bl r1", "bl #8", "b x:y"},
		"bx":    {"bx", "bx 8", "bx #8", "bx x", "bx r0, r1", "blx", "blx 8", "blx r0 r1", "bx [r0]"},
		"svc":   {"svc", "svc 1", "svc r0", "svc #", "svc #1, 2", "svc #r0", "svc ##1", "bkpt", "bkpt 1", "bkpt #1 2", "bkpt #\"a\""},
		"mrs":   {"mrs", "mrs r0", "mrs r0, r1", "mrs cpsr", "mrs cpsr, r0", "mrs r0, cpsr_f", "mrs r0, spsr_fsxc", "mrs r0, CPSR", "mrs r0, cpsr, r1", "mrs r0, apsr", "mrs #1, cpsr", "mrs r0, cpsr_", "mrs r0, 1"},
		"msr":   {"msr", "msr cpsr_f", "msr cpsr, r0", "msr spsr, r0", "msr cpsr_, r0", "msr cpsr_cf, r0", "msr cpsr_xs, r0", "msr cpsr_ff, r0", "msr cpsr_fg, r0", "msr cpsr_F, r0", "msr CPSR_f, r0", "msr cpsr_f_c, r0", "msr cpsr_fcx, r0", "msr _f, r0", "msr psr_f, r0", "msr apsr_f, r0", "msr cpsr_f, r0, lsl #1", "msr cpsr_f, r0, r1", "msr cpsr_f, 1", "msr cpsr_f r0", "msr r0, cpsr_f", "msr cpsr_f, #1, #2", "msr cpsr_f, #", "msr spsr_fsxcc, r0", "msr cpsrf, r0", "msr cpsr _f, r0", "msr cpsr_f, [r0]", "msr #1, r0", "msr cpsr_f,", "msr xcpsr_f, r0", "msr cpsr__f, r0"},
		"mcr":   {"mcr", "mcr p15", "mcr p15, #0, r0, c1, c0", "mcr p15, #0, r0, c1, c0,", "mcr p15, #0, r0, c1, c0, #0, #0", "mcr p14, #0, r0, c1, c0, #0", "mcr P15, #0, r0, c1, c0, #0", "mcr p15, 0, r0, c1, c0, 0", "mcr p15, #0, c0, c1, c0, #0", "mcr p15, #0, r0, r1, c0, #0", "mcr p15, #0, r0, c1, r0, #0", "mcr p15, #0, r0, c16, c0, #0", "mcr p15, #0, r0, c01, c0, #0", "mcr p15, #0, r0, c1, C0, #0", "mcr p15, #0, r0, c, c0, #0", "mcr p15, #0, #0, c1, c0, #0", "mcr 15, #0, r0, c1, c0, #0", "mrc #15, #0, r0, c1, c0, #0", "mrc p15, r0, r0, c1, c0, #0", "mrc p15 #0, r0, c1, c0, #0", "mrc p15, #0, r0 c1, c0, #0", "mrc p15, #0, r0, c1 c0, #0", "mrc p15, #0, r0, c1, c0 #0", "mrc p15, #0 r0, c1, c0, #0", "mrc p15, #0, r0, c1, 0, #0", "mrc p15, #0, r0, 1, c0, #0", "mcr p15, #0, r0, c1, c0, r0", "mcr p15, #0, r0, c-1, c0, #0"},
		"nop":   {"nop r0", "nop #0", "nop,", "wfi 0", "wfieq {"},
		"adr":   {"adr", "adr r0", "adr r0,", "adr r0, #8", "adr r0, r1", "adr 8", "adr r0, r1, 8", "adr r0, 8, 8", "adr r0, [r1]", "adr x, 8"},
	} {
		t.Run(row, func(t *testing.T) {
			checkErrors(t, 0, api.ErrOperand, lines...)
			for _, line := range lines {
				if _, e := lined(line, 0); e != api.ErrOperand {
					t.Errorf("model: %q: %d", line, e)
				}
			}
		})
	}
}

// Each row of the operands' table, by hand.
func TestRows(t *testing.T) {
	checkWords(t, 0, map[string]uint32{
		"and r1, r2, r3": 0xE0021003, "eor r1, r2, #3": 0xE2221003, "sub r1, r2, r3, lsl #4": 0xE0421203, "rsb r1, r2, r3, lsr r4": 0xE0621433, "add r1, r2, r3, asr #32": 0xE0821043, "adc r1, r2, r3, ror #31": 0xE0A21FE3,
		"sbc r1, r2, r3, rrx": 0xE0C21063, "rsc r1, r2, #0xff0": 0xE2E21EFF, "tst r2, r3": 0xE1120003, "teq r2, #3": 0xE3320003, "cmp r2, r3, asr r4": 0xE1520453, "cmn r2, r3, ror r4": 0xE1720473,
		"orr r1, r2, r3, lsl r4": 0xE1821413, "mov r1, r3, lsr #32": 0xE1A01023, "bic r1, r2, r3, lsr #1": 0xE1C210A3, "mvn r1, #3": 0xE3E01003, "mvns r1, r3, lsl #31": 0xE1F01F83,
		"movw r1, #0xabcd": 0xE30A1BCD, "movt r1, #0xabcd": 0xE34A1BCD, "movw r1, #65535": 0xE30F1FFF, "movt r1, #0": 0xE3401000,
		"mul r1, r2, r3": 0xE0010392, "mla r1, r2, r3, r4": 0xE0214392, "umull r1, r2, r3, r4": 0xE0821493, "umlal r1, r2, r3, r4": 0xE0A21493, "smull r1, r2, r3, r4": 0xE0C21493, "smlals r1, r2, r3, r4": 0xE0F21493,
		"clz r1, r2": 0xE16F1F12, "rev r1, r2": 0xE6BF1F32, "uxtb r1, r2": 0xE6EF1072, "uxth r1, r2, ror #8": 0xE6FF1472, "sxtb r1, r2, ror #16": 0xE6AF1872, "sxth r1, r2, ror #24": 0xE6BF1C72,
		"ldr r1, [r2]": 0xE5921000, "str r1, [r2]": 0xE5821000, "ldrb r1, [r2]": 0xE5D21000, "strb r1, [r2]": 0xE5C21000, "ldrh r1, [r2]": 0xE1D210B0, "strh r1, [r2]": 0xE1C210B0, "ldrsb r1, [r2]": 0xE1D210D0, "ldrsh r1, [r2]": 0xE1D210F0,
		"ldmda r2, {r1}": 0xE8120002, "ldmia r2, {r1}": 0xE8920002, "ldmdb r2, {r1}": 0xE9120002, "ldmib r2, {r1}": 0xE9920002, "stmda r2!, {r1}": 0xE8220002, "stmia r2!, {r1}": 0xE8A20002, "stmdb r2!, {r1}": 0xE9220002, "stmib r2 !, {r1}": 0xE9A20002,
		"b 8": 0xEA000000, "bl 12": 0xEB000001, "bx r1": 0xE12FFF11, "blx r1": 0xE12FFF31, "bx lr": 0xE12FFF1E, "svc #0": 0xEF000000, "svc #16777215": 0xEFFFFFFF, "bkpt #0": 0xE1200070, "bkpt #65535": 0xE12FFF7F,
		"mrs r1, cpsr": 0xE10F1000, "mrs r1, spsr": 0xE14F1000, "msr cpsr_f, r1": 0xE128F001, "msr spsr_fsxc, r1": 0xE16FF001, "msr cpsr_c, #0xd3": 0xE321F0D3, "msr spsr_f, #0xf0000000": 0xE368F20F, "msr cpsr_x, #1, 4": 0xE322F201,
		"mcr p15, #7, r1, c15, c14, #6": 0xEEEF1FDE, "mrc p15, #0, r1, c0, c9, #7": 0xEE101FF9, "nop": 0xE320F000, "wfi": 0xE320F003,
		"adr r1, 8": 0xE28F1000, "adr r1, 12": 0xE28F1004, "adr r1, 4": 0xE24F1004, "push {r1}": 0xE92D0002, "pop {r1}": 0xE8BD0002, "push {r0-r12, lr}": 0xE92D5FFF, "pop {r0-r12, r14, pc}": 0xE8BDDFFF,
	})
}

// Numbers of the table, at both ends of their ranges and beyond them.
func TestBounds(t *testing.T) {
	for line, ends := range map[string][2]int64{
		"movw r0, #%d": {0, 65535}, "movt r0, #%d": {0, 65535}, "bkpt #%d": {0, 65535}, "svc #%d": {0, 1<<24 - 1}, "mcr p15, #%d, r0, c0, c0, #0": {0, 7}, "mrc p15, #0, r0, c0, c0, #%d": {0, 7},
		"mov r0, #%d, 4": {0, 255}, "mov r0, #1, %d": {0, 30}, "msr cpsr_f, #1, %d": {0, 30}, "add r0, r0, r0, lsl #%d": {0, 31}, "add r0, r0, r0, lsr #%d": {1, 32}, "add r0, r0, r0, asr #%d": {1, 32}, "add r0, r0, r0, ror #%d": {1, 31},
		"ldr r0, [r1, r2, lsl #%d]": {0, 31}, "ldr r0, [r1], r2, lsr #%d": {1, 32}, "ldr r0, [r1, -r2, asr #%d]!": {1, 32}, "ldr r0, [r1, +r2, ror #%d]": {1, 31}, "ldr r0, [r1, #%d]": {-4095, 4095}, "strb r0, [r1], #%d": {-4095, 4095}, "ldrh r0, [r1, #%d]!": {-255, 255}, "ldrsb r0, [r1], #%d": {-255, 255}, "strh r0, [r1, #%d]": {-255, 255}, "ldrsh r0, [r1, #%d]": {-255, 255}, "uxtb r0, r0, ror #%d": {8, 24},
	} {
		for _, n := range ends {
			if w, e := wordOf(t, fmt.Sprintf(line, n), 0); e != api.OK {
				t.Errorf(line+": %#x, %d", n, w, e)
			}
		}
		checkErrors(t, 0, api.ErrReach, fmt.Sprintf(line, ends[0]-1), fmt.Sprintf(line, ends[1]+1), fmt.Sprintf(line, 4294967295), fmt.Sprintf(line, -4294967295), fmt.Sprintf(line, 1<<31))
	}
	checkErrors(t, 0, api.ErrReach, "mov r0, #1, 1", "mov r0, #1, 29", "mov r0, #1, 31", "mov r0, #1, 3", "mov r0, #256, 0", "mov r0, #-1, 0", "mov r0, #1, -2", "uxtb r0, r0, ror #0", "uxtb r0, r0, ror #12", "uxth r0, r0, ror #9", "sxtb r0, r0, ror #23", "sxth r0, r0, ror #-8")
}
