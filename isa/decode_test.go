package isa_test

import (
	"math/rand"
	"testing"

	"atlas/api"
	"atlas/isa"
)

// checkWord: P1901, P1903 and P1904, of a word.
func checkWord(t *testing.T, w uint32) {
	t.Helper()
	all := decoded(w)
	if len(all) > 1 {
		t.Fatalf("%#x fits two rows: %+v", w, all)
	}
	i, ok := isa.Decode(w)
	if len(all) == 0 {
		if ok || i != (api.Ins{}) {
			t.Fatalf("Decode(%#x) = %+v, %v, want undefined", w, i, ok)
		}
		return
	}
	if !ok || i != all[0] {
		t.Fatalf("Decode(%#x) = %+v, %v, want %+v", w, i, ok, all[0])
	}
	if back, e := isa.Encode(i); back != w || e != api.OK {
		t.Fatalf("Encode(Decode(%#x)) = %#x, %d", w, back, e)
	}
	checkIns(t, i)
}

// checkIns: P1902, P1903 and P1904, of an instruction, right or not.
func checkIns(t *testing.T, i api.Ins) {
	t.Helper()
	want, right := encoded(i)
	e := api.OK
	if !right {
		e = api.ErrIns
	}
	if w, got := isa.Encode(i); w != want || got != e {
		t.Fatalf("Encode(%+v) = %#x, %d, want %#x, %d", i, w, got, want, e)
	}
	if got := isa.Right(i); got != right {
		t.Fatalf("Right(%+v) = %v", i, got)
	}
	if right {
		if back, ok := isa.Decode(want); !ok || back != i {
			t.Fatalf("Decode(Encode(%+v)) = %+v, %v", i, back, ok)
		}
	}
	if got := isa.Reads(i); got != reads(i) {
		t.Fatalf("Reads(%+v) = %#x, want %#x", i, got, reads(i))
	}
	if got := isa.Writes(i); got != writes(i) {
		t.Fatalf("Writes(%+v) = %#x, want %#x", i, got, writes(i))
	}
}

// The chapter's examples, and one word of each operation, told by hand.
func TestDecodeExamples(t *testing.T) {
	for w, want := range map[uint32]api.Ins{
		0xE3A00001: {Cond: 14, Op: api.OpMOV, Form: api.FormImm, Imm: 1},
		0xE0810002: {Cond: 14, Op: api.OpADD, Form: api.FormReg, Rn: 1, Rm: 2},
		0xE1A0F00E: {Cond: 14, Op: api.OpMOV, Form: api.FormReg, Rd: 15, Rm: 14},
		0xE5910004: {Cond: 14, Op: api.OpLDR, Form: api.FormImm, Rn: 1, Imm: 4, Pre: true, Up: true},
		0xE52DE004: {Cond: 14, Op: api.OpSTR, Form: api.FormImm, Rd: 14, Rn: 13, Imm: 4, Pre: true, Write: true},
		0xE4910004: {Cond: 14, Op: api.OpLDR, Form: api.FormImm, Rn: 1, Imm: 4, Up: true},
		0xEAFFFFFE: {Cond: 14, Op: api.OpB, Imm: 0xFFFFFFF8},
		0xE8BD8010: {Cond: 14, Op: api.OpLDM, Rn: 13, Up: true, Write: true, List: 0x8010},
		0xE12FFF1E: {Cond: 14, Op: api.OpBX, Rm: 14},
		0xEF000007: {Cond: 14, Op: api.OpSVC, Imm: 7},
		0xEE010F10: {Cond: 14, Op: api.OpMCR, Tuple: api.Tuple{CRn: 1}},
		0xE10F0000: {Cond: 14, Op: api.OpMRS},
		0xE320F000: {Cond: 14, Op: api.OpNOP},
		0xE1510302: {Cond: 14, Op: api.OpCMP, S: true, Form: api.FormReg, Rn: 1, Rm: 2, Amount: 6},
		0x00000000: {Op: api.OpAND, Form: api.FormReg},

		0x12312413: {Cond: 1, Op: api.OpEOR, S: true, Form: api.FormImm, Rn: 1, Rd: 2, Imm: 0x413},
		0x204520E6: {Cond: 2, Op: api.OpSUB, Form: api.FormReg, Rn: 5, Rd: 2, Rm: 6, Shift: api.ShROR, Amount: 1},
		0x3074253D: {Cond: 3, Op: api.OpRSB, S: true, Form: api.FormRsr, Rn: 4, Rd: 2, Rs: 5, Shift: api.ShLSR, Rm: 13},
		0x42A12FFF: {Cond: 4, Op: api.OpADC, Form: api.FormImm, Rn: 1, Rd: 2, Imm: 0xFFF},
		0x50D12FC3: {Cond: 5, Op: api.OpSBC, S: true, Form: api.FormReg, Rn: 1, Rd: 2, Rm: 3, Shift: api.ShASR, Amount: 31},
		0x60E12453: {Cond: 6, Op: api.OpRSC, Form: api.FormRsr, Rn: 1, Rd: 2, Rs: 4, Shift: api.ShASR, Rm: 3},
		0x731F00FF: {Cond: 7, Op: api.OpTST, S: true, Form: api.FormImm, Rn: 15, Imm: 255},
		0x81310372: {Cond: 8, Op: api.OpTEQ, S: true, Form: api.FormRsr, Rn: 1, Rs: 3, Shift: api.ShROR, Rm: 2},
		0x937C0001: {Cond: 9, Op: api.OpCMN, S: true, Form: api.FormImm, Rn: 12, Imm: 1},
		0xA1821003: {Cond: 10, Op: api.OpORR, Form: api.FormReg, Rn: 2, Rd: 1, Rm: 3},
		0xB3D21003: {Cond: 11, Op: api.OpBIC, S: true, Form: api.FormImm, Rn: 2, Rd: 1, Imm: 3},
		0xC1F01003: {Cond: 12, Op: api.OpMVN, S: true, Form: api.FormReg, Rd: 1, Rm: 3},
		0xD30A3BCD: {Cond: 13, Op: api.OpMOVW, Rd: 3, Imm: 0xABCD},
		0xE34A3BCD: {Cond: 14, Op: api.OpMOVT, Rd: 3, Imm: 0xABCD},
		0xE0130291: {Cond: 14, Op: api.OpMUL, S: true, Rd: 3, Rs: 2, Rm: 1},
		0xE0234291: {Cond: 14, Op: api.OpMLA, Rd: 3, Ra: 4, Rs: 2, Rm: 1},
		0xE0832190: {Cond: 14, Op: api.OpUMULL, Rd: 3, Ra: 2, Rs: 1},
		0xE0B34291: {Cond: 14, Op: api.OpUMLAL, S: true, Rd: 3, Ra: 4, Rs: 2, Rm: 1},
		0xE0C34291: {Cond: 14, Op: api.OpSMULL, Rd: 3, Ra: 4, Rs: 2, Rm: 1},
		0xE0F34291: {Cond: 14, Op: api.OpSMLAL, S: true, Rd: 3, Ra: 4, Rs: 2, Rm: 1},
		0xE16F1F12: {Cond: 14, Op: api.OpCLZ, Rd: 1, Rm: 2},
		0xE6BF1F32: {Cond: 14, Op: api.OpREV, Rd: 1, Rm: 2},
		0xE6EF1472: {Cond: 14, Op: api.OpUXTB, Rd: 1, Rm: 2, Amount: 1},
		0xE6FF1872: {Cond: 14, Op: api.OpUXTH, Rd: 1, Rm: 2, Amount: 2},
		0xE6AF1C72: {Cond: 14, Op: api.OpSXTB, Rd: 1, Rm: 2, Amount: 3},
		0xE6BF1072: {Cond: 14, Op: api.OpSXTH, Rd: 1, Rm: 2},
		0xE7B12183: {Cond: 14, Op: api.OpLDR, Form: api.FormReg, Rn: 1, Rd: 2, Rm: 3, Amount: 3, Pre: true, Up: true, Write: true},
		0xE7012123: {Cond: 14, Op: api.OpSTR, Form: api.FormReg, Rn: 1, Rd: 2, Rm: 3, Shift: api.ShLSR, Amount: 2, Pre: true},
		0xE5512FFF: {Cond: 14, Op: api.OpLDRB, Form: api.FormImm, Rn: 1, Rd: 2, Imm: 0xFFF, Pre: true},
		0xE6C12003: {Cond: 14, Op: api.OpSTRB, Form: api.FormReg, Rn: 1, Rd: 2, Rm: 3, Up: true},
		0xE1D100B2: {Cond: 14, Op: api.OpLDRH, Form: api.FormImm, Rn: 1, Imm: 2, Pre: true, Up: true},
		0xE16100BF: {Cond: 14, Op: api.OpSTRH, Form: api.FormImm, Rn: 1, Imm: 15, Pre: true, Write: true},
		0xE0512FD3: {Cond: 14, Op: api.OpLDRSB, Form: api.FormImm, Rn: 1, Rd: 2, Imm: 0xF3},
		0xE19120F3: {Cond: 14, Op: api.OpLDRSH, Form: api.FormReg, Rn: 1, Rd: 2, Rm: 3, Pre: true, Up: true},
		0xE90D4001: {Cond: 14, Op: api.OpSTM, Rn: 13, Pre: true, List: 0x4001},
		0xEB7FFFFF: {Cond: 14, Op: api.OpBL, Imm: 0x01FFFFFC},
		0xE12FFF31: {Cond: 14, Op: api.OpBLX, Rm: 1},
		0xE12ABC7D: {Cond: 14, Op: api.OpBKPT, Imm: 0xABCD},
		0xE14F1000: {Cond: 14, Op: api.OpMRS, S: true, Rd: 1},
		0xE129F002: {Cond: 14, Op: api.OpMSR, Form: api.FormReg, Amount: 9, Rm: 2},
		0xE36FF4F0: {Cond: 14, Op: api.OpMSR, S: true, Form: api.FormImm, Amount: 15, Imm: 0x4F0},
		0xEEF92FBA: {Cond: 14, Op: api.OpMRC, Rd: 2, Tuple: api.Tuple{CRn: 9, Op1: 7, CRm: 10, Op2: 5}},
		0xE320F003: {Cond: 14, Op: api.OpWFI},
	} {
		if i, ok := isa.Decode(w); !ok || i != want {
			t.Errorf("Decode(%#x) = %+v, %v, want %+v", w, i, ok, want)
		}
		if v, e := isa.Encode(want); v != w || e != api.OK {
			t.Errorf("Encode(%+v) = %#x, %d, want %#x", want, v, e, w)
		}
		if !isa.Right(want) {
			t.Errorf("Right(%+v) = false", want)
		}
		checkWord(t, w)
	}
}

// Words near those of the table that fit no row.
func TestDecodeOfNoRow(t *testing.T) {
	for _, w := range []uint32{
		0xE7F000F0,                         // the chapter's
		0xE1A10000, 0xE3E10000, 0xE1E1F312, // MOV and MVN with a first operand
		0xE1511002, 0xE3111001, 0xE1711312, // CMP, TST and CMN with Rd
		0xE1010002, 0xE1410312, 0xE3600001, // comparing ones without S
		0xE0001291, 0xE0400291, 0xE0600291, // MUL with Ra; the products between those of the table
		0xE1010092, 0xE1910F9F, // other words with 1001
		0xE1C100D0, 0xE1C100F0, 0xE18100D2, // stores where bytes and halves with sign would be
		0xE18101B2, 0xE19101D2, 0xE1910FF2, // bits above Rm
		0xE16F1E12, 0xE16E1F12, 0xE16F1F22, 0xE12FFF21, 0xE12FFE1E, 0xE12EFF1E, 0xE1200050,
		0xE10F0001, 0xE10F0100, 0xE10E0000, 0xE129E002, 0xE129F102, 0xE129F012, 0xE329E002,
		0xE320F001, 0xE320F002, 0xE320F004, 0xE320F100, 0xE360F000, 0xE320E000, // near NOP and WFI
		0xE7910012, 0xE7810092, 0xE6910FF2, // a shift with the bit 4
		0xE6BF1FB2, 0xE6BF0F22, 0xE6BF1E32, 0xE6A21072, 0xE6EE1072, 0xE6CF1072, 0xE6EF1172, 0xE6EF1272, 0xE6EF1062,
		0xE8D10001, 0xE8C10001, 0xE9FD8010, // lists with the bit 22
		0xEC000000, 0xED910F00, 0xEDFFFFFF, // 110
		0xEE010E10, 0xEE010F00, 0xEE110710, // other coprocessors, and no transfer
	} {
		if i, ok := isa.Decode(w); ok || i != (api.Ins{}) {
			t.Errorf("Decode(%#x) = %+v, %v", w, i, ok)
		}
		checkWord(t, w)
	}
}

// Each line of "What may not be": a word that it bars, and its neighbours that may be.
func TestWhatMayNotBe(t *testing.T) {
	for _, c := range []struct {
		why    string
		barred uint32
		may    []uint32
	}{
		{"Cond 15", 0xF3A00001, []uint32{0xE3A00001, 0x03A00001}},
		{"Cond 15 of a branch", 0xFA000000, []uint32{0xEA000000}},
		{"Cond 15 of NOP", 0xF320F000, []uint32{0xE320F000}},

		{"FormRsr, Rd", 0xE081F312, []uint32{0xE081E312, 0xE081F302}},
		{"FormRsr, Rn", 0xE08F0312, []uint32{0xE08E0312, 0xE08F0302}},
		{"FormRsr, Rm", 0xE081031F, []uint32{0xE081031E, 0xE081030F}},
		{"FormRsr, Rs", 0xE0810F12, []uint32{0xE0810E12, 0xE0810F02}},
		{"FormRsr, Rn of CMP", 0xE15F0312, []uint32{0xE15E0312, 0xE15F0302}},
		{"FormRsr, Rd of MOV", 0xE1A0F312, []uint32{0xE1A0E312, 0xE1A0F302}},

		{"MOVW, Rd", 0xE300F001, []uint32{0xE300E001, 0xE30FE00F}},
		{"MOVT, Rd", 0xE340F001, []uint32{0xE340E001, 0xE34FEFFF}},
		{"MUL, Rd", 0xE00F0291, []uint32{0xE00E0291}},
		{"MUL, Rs", 0xE0030F91, []uint32{0xE0030E91}},
		{"MUL, Rm", 0xE003029F, []uint32{0xE003029E}},
		{"MLA, Ra", 0xE023F291, []uint32{0xE023E291, 0xE0233291}}, // Rd is Ra may be
		{"MLA, Rd", 0xE02F4291, []uint32{0xE02E4291}},
		{"UMULL, Rd is Ra", 0xE0833291, []uint32{0xE0834291, 0xE0843291}},
		{"UMLAL, Rd is Ra", 0xE0A33291, []uint32{0xE0A34291, 0xE0A43291}},
		{"SMULL, Rd is Ra", 0xE0C00291, []uint32{0xE0C01291, 0xE0C10291}},
		{"SMLAL, Rd is Ra", 0xE0EEE291, []uint32{0xE0EED291, 0xE0EDE291}},
		{"UMULL, Ra", 0xE083F291, []uint32{0xE083E291}},
		{"SMLAL, Rd", 0xE0EF3291, []uint32{0xE0EE3291}},
		{"CLZ, Rd", 0xE16FFF12, []uint32{0xE16FEF12}},
		{"CLZ, Rm", 0xE16F1F1F, []uint32{0xE16F1F1E}},
		{"REV, Rd", 0xE6BFFF32, []uint32{0xE6BFEF32}},
		{"REV, Rm", 0xE6BF1F3F, []uint32{0xE6BF1F3E}},
		{"UXTB, Rd", 0xE6EFF072, []uint32{0xE6EFE072}},
		{"UXTH, Rm", 0xE6FF107F, []uint32{0xE6FF107E}},
		{"SXTB, Rm", 0xE6AF107F, []uint32{0xE6AF107E}},
		{"SXTH, Rd", 0xE6BFF072, []uint32{0xE6BFE072}},

		{"LDR, Write without Pre", 0xE4B10004, []uint32{0xE4910004, 0xE5B10004, 0xE5910004}},
		{"STRH, Write without Pre", 0xE0E100B4, []uint32{0xE0C100B4, 0xE1E100B4, 0xE1C100B4}},
		{"LDR, Write, Rn is Rd", 0xE5B11004, []uint32{0xE5B12004, 0xE5911004}},
		{"LDR, no Pre, Rn is Rd", 0xE4911004, []uint32{0xE4912004, 0xE5911004}},
		{"STR, no Pre, Rn is Rd", 0xE6811002, []uint32{0xE6812002, 0xE7811002}},
		{"LDRSH, Write, Rn is Rd", 0xE1B110F2, []uint32{0xE1B120F2, 0xE19110F2}},
		{"LDR, Write, Rn 15", 0xE5BF0004, []uint32{0xE5BE0004, 0xE59F0004}},
		{"LDR, no Pre, Rn 15", 0xE49F0004, []uint32{0xE49E0004, 0xE59F0004}},
		{"STRB, no Pre, Rn 15", 0xE6CF0002, []uint32{0xE6CE0002, 0xE7CF0002}},
		{"LDR, FormReg, Rm 15", 0xE791000F, []uint32{0xE791000E, 0xE591000F}},
		{"STRH, FormReg, Rm 15", 0xE18100BF, []uint32{0xE18100BE, 0xE1C100BF}},
		{"STR, Rd 15", 0xE581F004, []uint32{0xE581E004, 0xE591F004, 0xE5B1F004, 0xE491F004, 0xE791F002, 0xE59FF004}}, // of LDR it may be
		{"LDRB, Rd 15", 0xE5D1F004, []uint32{0xE5D1E004}},
		{"STRB, Rd 15", 0xE5C1F004, []uint32{0xE5C1E004}},
		{"LDRH, Rd 15", 0xE1D1F0B4, []uint32{0xE1D1E0B4}},
		{"STRH, Rd 15", 0xE1C1F0B4, []uint32{0xE1C1E0B4}},
		{"LDRSB, Rd 15", 0xE191F0D4, []uint32{0xE191E0D4}},
		{"LDRSH, Rd 15", 0xE1D1F0F4, []uint32{0xE1D1E0F4}},

		{"LDM, no register", 0xE8910000, []uint32{0xE8910001, 0xE8918000}},
		{"STM, no register", 0xE8A10000, []uint32{0xE8A10001, 0xE8A14000}},
		{"LDM, Rn 15", 0xE89F0001, []uint32{0xE89E0001}},
		{"STM, Rn 15", 0xE88F0001, []uint32{0xE88E0001}},
		{"LDM, Write, Rn in it", 0xE8B10002, []uint32{0xE8B10005, 0xE8910002}},
		{"STM, Write, Rn in it", 0xE92D2000, []uint32{0xE92D5000, 0xE90D2000}},
		{"STM, Write, R0 in it", 0xE8A00001, []uint32{0xE8A00002, 0xE8800001}},
		{"STM, 15 in it", 0xE8818000, []uint32{0xE8814000, 0xE8918000}},

		{"BX, Rm 15", 0xE12FFF1F, []uint32{0xE12FFF1E}},
		{"BLX, Rm 15", 0xE12FFF3F, []uint32{0xE12FFF3E}},
		{"MRS, Rd 15", 0xE10FF000, []uint32{0xE10FE000}},
		{"MRS, S, Rd 15", 0xE14FF000, []uint32{0xE14FE000}},
		{"MCR, Rd 15", 0xEE01FF10, []uint32{0xEE01EF10}},
		{"MRC, Rd 15", 0xEE11FF10, []uint32{0xEE11EF10}},
		{"MSR, FormReg, Amount 0", 0xE120F001, []uint32{0xE121F001, 0xE12FF001}},
		{"MSR, S, FormReg, Amount 0", 0xE160F001, []uint32{0xE168F001}},
		{"MSR, FormImm, Amount 0", 0xE320F0FF, []uint32{0xE321F0FF, 0xE324F000}},
		{"MSR, FormReg, Rm 15", 0xE129F00F, []uint32{0xE129F00E, 0xE329F00F}},
		{"BKPT, Cond 13", 0xD1200070, []uint32{0xE1200070}},
		{"BKPT, Cond 0", 0x0120007F, []uint32{0xE120007F}},
	} {
		if i, ok := isa.Decode(c.barred); ok || i != (api.Ins{}) {
			t.Errorf("%s: Decode(%#x) = %+v, %v", c.why, c.barred, i, ok)
		}
		checkWord(t, c.barred)
		for _, w := range c.may {
			if _, ok := isa.Decode(w); !ok {
				t.Errorf("%s: its neighbour %#x is undefined", c.why, w)
			}
			checkWord(t, w)
		}
	}
}

// What is barred can not be encoded either: the same instruction, as its row reads it.
func TestBarredIsNotRight(t *testing.T) {
	r := rand.New(rand.NewSource(1))
	for _, l := range lines {
		n := 0
		for range 3000 {
			i := l.says(l.anyWord(r))
			if !l.barred(i) {
				continue
			}
			n++
			if w, e := isa.Encode(i); w != 0 || e != api.ErrIns {
				t.Fatalf("Encode(%+v) = %#x, %d", i, w, e)
			}
			checkIns(t, i)
		}
		if n == 0 {
			t.Errorf("%s, form %d: no word of it was barred", l.name, l.form)
		}
	}
}

// anyWord: a word of the line, with a 0, the greatest number or any other in each field.
func (l *line) anyWord(r *rand.Rand) uint32 {
	w := l.bits
	for _, letter := range []byte(letters) {
		switch r.Intn(4) {
		case 0:
			w = l.with(w, letter, l.greatest(letter))
		case 1, 2:
			w = l.with(w, letter, r.Intn(l.greatest(letter)+1))
		}
	}
	return w
}

// Every row, with each condition, and each field at 0 and at its greatest, in all ways.
func TestEveryRowAtItsEnds(t *testing.T) {
	for _, l := range lines {
		var own []byte
		for _, letter := range []byte(letters[1:]) {
			if l.has(letter) {
				own = append(own, letter)
			}
		}
		for cond := range 16 {
			for chosen := range 1 << len(own) {
				w := l.with(l.bits, 'c', cond)
				for n, letter := range own {
					if chosen>>n&1 == 1 {
						w = l.with(w, letter, l.greatest(letter))
					}
				}
				checkWord(t, w)
			}
		}
	}
}

// Each field of each row by itself, over all of its numbers (of wide ones: each bit), beside registers that bar nothing.
func TestEveryFieldOfEveryRow(t *testing.T) {
	for _, l := range lines {
		plain := l.bits
		for letter, n := range map[byte]int{'c': 14, 'd': 1, 'n': 2, 'm': 3, 'r': 4, 'a': 5, 'k': 1, 'p': 1, 'l': 1} {
			if l.has(letter) {
				plain = l.with(plain, letter, n)
			}
		}
		if _, ok := isa.Decode(plain); !ok {
			t.Errorf("%s, form %d: %#x is undefined", l.name, l.form, plain)
		}
		for _, letter := range []byte(letters) {
			wide := len(l.places[letter])
			for n := range min(1<<wide, 1<<12) {
				checkWord(t, l.with(plain, letter, n))
			}
			for bit := range wide {
				checkWord(t, l.with(plain, letter, 1<<bit))
				checkWord(t, l.with(plain, letter, l.greatest(letter)-1<<bit))
			}
		}
	}
}

// Words of each row, and all words that differ from them in one bit, or in two.
func TestWordsOfRowsAndNearThem(t *testing.T) {
	r := rand.New(rand.NewSource(2))
	for _, l := range lines {
		for range 60 {
			w := l.anyWord(r)
			checkWord(t, w)
			for bit := range 32 {
				checkWord(t, w^1<<bit)
				checkWord(t, w^1<<bit^1<<r.Intn(32))
			}
		}
	}
}

// Any words: scattered, and evenly over the whole.
func TestAnyWord(t *testing.T) {
	r := rand.New(rand.NewSource(3))
	for range 200000 {
		checkWord(t, r.Uint32())
		checkWord(t, r.Uint32()&^(0xF<<28)|14<<28)
	}
	const step = 9973
	for w := uint64(0); w < 1<<32; w += step {
		checkWord(t, uint32(w))
	}
	checkWord(t, 0xFFFFFFFF)
}

// B and BL: with the sign and without it, at both ends.
func TestBranchWords(t *testing.T) {
	for op, top := range map[int]uint32{api.OpB: 0xEA000000, api.OpBL: 0xEB000000} {
		for bits, imm := range map[uint32]uint32{
			0x000000: 0,
			0x000001: 4,
			0x7FFFFE: 0x01FFFFF8,
			0x7FFFFF: 0x01FFFFFC,
			0x800000: 0xFE000000,
			0x800001: 0xFE000004,
			0xFFFFFE: 0xFFFFFFF8,
			0xFFFFFF: 0xFFFFFFFC,
		} {
			want := api.Ins{Cond: 14, Op: op, Imm: imm}
			if i, ok := isa.Decode(top | bits); !ok || i != want {
				t.Errorf("Decode(%#x) = %+v, %v", top|bits, i, ok)
			}
			if w, e := isa.Encode(want); w != top|bits || e != api.OK {
				t.Errorf("Encode(%+v) = %#x, %d", want, w, e)
			}
		}
		for _, imm := range []uint32{1, 2, 3, 5, 6, 7, 0x01FFFFFD, 0x01FFFFFE, 0x01FFFFFF, 0x02000000, 0x02000004, 0x03FFFFFC, 0x04000000, 0x7FFFFFFC, 0x80000000, 0xFC000000, 0xFDFFFFF8, 0xFDFFFFFC, 0xFDFFFFFF, 0xFE000001, 0xFE000002, 0xFFFFFFFD, 0xFFFFFFFE, 0xFFFFFFFF} {
			i := api.Ins{Cond: 14, Op: op, Imm: imm}
			if w, e := isa.Encode(i); w != 0 || e != api.ErrIns || isa.Right(i) {
				t.Errorf("Encode(%+v) = %#x, %d", i, w, e)
			}
			checkIns(t, i)
		}
	}
}
