package cpu

import (
	"atlas/alu"
	"atlas/api"
)

// The halves of a word.
const (
	halfBits = 16
	halfMask = 1<<halfBits - 1
)

// byteMask: the part of a register that says how far a shift goes.
const byteMask = 0xFF

// signBit: the place of the highest bit of a word.
const signBit = 31

// data: one of the sixteen operations (I20.1).
func (d *doing) data() {
	i := d.ins
	second, carry := d.operand()
	w, written, flags := alu.Do(i.Op, d.value(i.Rn), second, carry, d.regs.flags())
	if i.S && written && i.Rd == pc {
		if !d.regs.leave(w) {
			d.undefined()
		}
		return
	}
	if i.S {
		d.regs.setFlags(flags)
	}
	if written {
		d.regs.set(i.Rd, w)
	}
}

// operand: the second one, and its carry.
func (d *doing) operand() (uint32, bool) {
	i, carry := d.ins, d.regs.flags().C
	switch i.Form {
	case api.FormImm:
		return alu.Expand(i.Imm, carry)
	case api.FormRsr:
		return alu.Shift(i.Shift, d.value(i.Rm), int(d.value(i.Rs)&byteMask), carry)
	}
	kind, n := alu.Decode(i.Shift, i.Amount)
	return alu.Shift(kind, d.value(i.Rm), n, carry)
}

// half: MOVW (I20.1).
func (d *doing) half() { d.regs.set(d.ins.Rd, d.ins.Imm) }

// upperHalf: MOVT (I20.1).
func (d *doing) upperHalf() {
	d.regs.set(d.ins.Rd, d.ins.Imm<<halfBits|d.value(d.ins.Rd)&halfMask)
}

// product: of one word (I20.2).
func (d *doing) product() {
	i := d.ins
	_, w, _ := alu.Long(i.Op, d.value(i.Rm), d.value(i.Rs), 0, d.value(i.Ra))
	d.regs.set(i.Rd, w)
	d.tell(w, w == 0)
}

// longProduct: of two words (I20.2).
func (d *doing) longProduct() {
	i := d.ins
	high, low, _ := alu.Long(i.Op, d.value(i.Rm), d.value(i.Rs), d.value(i.Rd), d.value(i.Ra))
	d.regs.set(i.Ra, low)
	d.regs.set(i.Rd, high)
	d.tell(high, high == 0 && low == 0)
}

// tell: with S, N and Z of a product with that highest word.
func (d *doing) tell(highest uint32, zero bool) {
	if !d.ins.S {
		return
	}
	f := d.regs.flags()
	f.N, f.Z = highest>>signBit == 1, zero
	d.regs.setFlags(f)
}

// small: bytes and halves of one word (I20.2).
func (d *doing) small() {
	i := d.ins
	w, _ := alu.Small(i.Op, d.value(i.Rm), i.Amount)
	d.regs.set(i.Rd, w)
}
