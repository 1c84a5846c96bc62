package asm

import (
	"strings"

	"atlas/api"
)

// opNames: of the instructions, by their numbers. The empty text at 0 is no word of a line.
func opNames() [api.OpLast + 1]string {
	return [...]string{
		api.OpAND: "and", api.OpEOR: "eor", api.OpSUB: "sub", api.OpRSB: "rsb", api.OpADD: "add", api.OpADC: "adc", api.OpSBC: "sbc", api.OpRSC: "rsc",
		api.OpTST: "tst", api.OpTEQ: "teq", api.OpCMP: "cmp", api.OpCMN: "cmn", api.OpORR: "orr", api.OpMOV: "mov", api.OpBIC: "bic", api.OpMVN: "mvn",
		api.OpMOVW: "movw", api.OpMOVT: "movt", api.OpMUL: "mul", api.OpMLA: "mla",
		api.OpUMULL: "umull", api.OpUMLAL: "umlal", api.OpSMULL: "smull", api.OpSMLAL: "smlal",
		api.OpCLZ: "clz", api.OpREV: "rev", api.OpUXTB: "uxtb", api.OpUXTH: "uxth", api.OpSXTB: "sxtb", api.OpSXTH: "sxth",
		api.OpLDR: "ldr", api.OpSTR: "str", api.OpLDRB: "ldrb", api.OpSTRB: "strb",
		api.OpLDRH: "ldrh", api.OpSTRH: "strh", api.OpLDRSB: "ldrsb", api.OpLDRSH: "ldrsh", api.OpLDM: "ldm", api.OpSTM: "stm",
		api.OpB: "b", api.OpBL: "bl", api.OpBX: "bx", api.OpBLX: "blx", api.OpSVC: "svc", api.OpBKPT: "bkpt",
		api.OpMRS: "mrs", api.OpMSR: "msr", api.OpMCR: "mcr", api.OpMRC: "mrc", api.OpNOP: "nop", api.OpWFI: "wfi",
	}
}

// mnemonic: its name, what that alone says, whether an s may stand behind it, and how its operands are read.
type mnemonic struct {
	name     string
	says     api.Ins
	s        bool
	operands func(*draft)
}

// mnemonics: all of them, without s and condition.
func mnemonics() []mnemonic {
	rows := []mnemonic{
		{"adr", api.Ins{Op: api.OpADD, Form: api.FormImm, Rn: pc}, false, (*draft).near},
		{"push", api.Ins{Op: api.OpSTM, Rn: sp, Pre: true, Write: true}, false, (*draft).stack},
		{"pop", api.Ins{Op: api.OpLDM, Rn: sp, Up: true, Write: true}, false, (*draft).stack},
	}
	for op := api.OpAND; op <= api.OpLast; op++ {
		for _, says := range waysOf(op) {
			rows = append(rows, mnemonic{nameOf(says), says, setsFlags(op), shapeOf(op).read})
		}
	}
	return rows
}

// waysOf: what the names of an instruction say: it has one, but those that tell which way a list goes.
func waysOf(op int) []api.Ins {
	switch op {
	case api.OpLDM, api.OpSTM:
		return []api.Ins{{Op: op}, {Op: op, Up: true}, {Op: op, Pre: true}, {Op: op, Pre: true, Up: true}}
	}
	return []api.Ins{{Op: op, S: compares(op)}}
}

// compares: is it one that has S always, and does not write it?
func compares(op int) bool { return op >= api.OpTST && op <= api.OpCMN }

// setsFlags: is it one whose S is written?
func setsFlags(op int) bool {
	return op <= api.OpMVN && !compares(op) || op >= api.OpMUL && op <= api.OpSMLAL
}

// nameOf: the name that an instruction is written with.
func nameOf(i api.Ins) string {
	name := opNames()[i.Op]
	switch i.Op {
	case api.OpLDM, api.OpSTM:
		return name + pick(i.Up, "i", "d") + pick(i.Pre, "b", "a")
	}
	return name
}

func pick(so bool, text, other string) string {
	if so {
		return text
	}
	return other
}

// mnemonicText: the name with s and the condition.
func mnemonicText(i api.Ins) string {
	return nameOf(i) + pick(i.S && setsFlags(i.Op), "s", "") + conditionText(i.Cond)
}

// find: the mnemonic that a token is, with what s and the condition say. No word can be read in two ways, so the first one is the only one.
func find(rows []mnemonic, t token) (mnemonic, bool) {
	if t.kind != aWord {
		return mnemonic{}, false
	}
	for _, m := range rows {
		rest, ok := strings.CutPrefix(t.text, m.name)
		if ok && m.end(rest) {
			return m, true
		}
	}
	return mnemonic{}, false
}

// end: reads what stands behind the name; is it s, where there may be one, and a condition?
func (m *mnemonic) end(text string) bool {
	if rest, ok := strings.CutPrefix(text, "s"); ok && m.s {
		m.says.S = true
		text = rest
	}
	cond, ok := conditionOf(text)
	m.says.Cond = cond
	return ok
}
