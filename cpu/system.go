package cpu

import (
	"atlas/alu"
	"atlas/api"
)

// The masks of MSR that count: the bits of a status word stand in four bytes, of which the middle two have no kept bits.
const (
	lowestByte  = 1
	highestByte = 8
)

// branch: B (I20.5).
func (d *doing) branch() { d.regs.set(pc, d.value(pc)+d.ins.Imm) }

// branchLink: BL (I20.5).
func (d *doing) branchLink() {
	d.link()
	d.branch()
}

// jump: BX (I20.5).
func (d *doing) jump() { d.regs.set(pc, d.value(d.ins.Rm)) }

// jumpLink: BLX (I20.5).
func (d *doing) jumpLink() {
	d.jump() // ahead of the link: LR may be where it goes
	d.link()
}

// link: LR leads behind the instruction.
func (d *doing) link() { d.regs.set(lr, d.took.At+wordBytes) }

// call: SVC (F20.4).
func (d *doing) call() { d.took.Kind = api.TookSVC }

// stop: BKPT (F20.4).
func (d *doing) stop() { d.took.Kind, d.took.VA = api.TookPrefetch, d.took.At }

// wait: WFI (F20.4).
func (d *doing) wait() {
	if !d.line {
		d.took.Kind = api.TookWait
	}
}

// nothing: NOP (I20.7).
func (d *doing) nothing() {}

// undefined: it can not be done as it stands.
func (d *doing) undefined() { d.took.Kind = api.TookUndef }

// readStatus: MRS (I20.6).
func (d *doing) readStatus() {
	from := d.status()
	if from == nil {
		d.undefined()
		return
	}
	d.regs.set(d.ins.Rd, *from)
}

// writeStatus: MSR (I20.6).
func (d *doing) writeStatus() {
	to := d.status()
	if to == nil {
		d.undefined()
		return
	}
	counts := d.counting()
	w := *to&^counts | d.word()&counts
	if _, ok := Bank(modeOf(w)); !ok && !d.ins.S {
		d.undefined()
		return
	}
	*to = w
}

// status: where the status word stands that MRS and MSR are of; nil in USR and SYS, if it is SPSR.
func (d *doing) status() *uint32 {
	bank := d.regs.bank()
	switch {
	case !d.ins.S:
		return &d.regs.CPSR
	case bank == 0:
		return nil
	}
	return &d.regs.SPSR[bank]
}

// counting: the bits that MSR writes.
func (d *doing) counting() (mask uint32) {
	if d.ins.Amount&highestByte != 0 {
		mask = flagBits
	}
	if d.ins.Amount&lowestByte != 0 && !d.regs.isUser() {
		mask |= maskBit | modeBits
	}
	return mask
}

// word: what MSR writes the bits of.
func (d *doing) word() uint32 {
	if d.ins.Form == api.FormReg {
		return d.value(d.ins.Rm)
	}
	w, _ := alu.Expand(d.ins.Imm, false)
	return w
}

// toCoprocessor: MCR (I20.7).
func (d *doing) toCoprocessor() {
	if e := d.bus.Mcr(d.ins.Tuple, d.value(d.ins.Rd), d.regs.isUser()); e != api.OK {
		d.undefined()
	}
}

// fromCoprocessor: MRC (I20.7).
func (d *doing) fromCoprocessor() {
	w, e := d.bus.Mrc(d.ins.Tuple, d.regs.isUser())
	if e != api.OK {
		d.undefined()
		return
	}
	d.regs.set(d.ins.Rd, w)
}
