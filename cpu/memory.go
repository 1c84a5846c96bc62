package cpu

import (
	"math/bits"

	"atlas/api"
)

// load: one register (I20.3).
func (d *doing) load() {
	i := d.ins
	at, beside := d.addresses()
	v := d.access(api.Load, at, bytesOf(i.Op), 0)
	d.move(beside)
	switch i.Op {
	case api.OpLDRSB:
		v = uint32(int8(v))
	case api.OpLDRSH:
		v = uint32(int16(v))
	}
	d.regs.set(i.Rd, v)
}

// store: one register (I20.3).
func (d *doing) store() {
	at, beside := d.addresses()
	d.access(api.Store, at, bytesOf(d.ins.Op), d.value(d.ins.Rd))
	d.move(beside)
}

// addresses: that of the access, and that beside.
func (d *doing) addresses() (uint32, uint32) {
	i, base, offset := d.ins, d.value(d.ins.Rn), d.offset()
	beside := base - offset
	if i.Up {
		beside = base + offset
	}
	if i.Pre {
		return beside, beside
	}
	return base, beside
}

func (d *doing) offset() uint32 {
	if d.ins.Form == api.FormImm {
		return d.ins.Imm
	}
	v, _ := d.operand()
	return v
}

// move: Rn to the address beside, where the instruction takes it along.
func (d *doing) move(beside uint32) {
	if !d.ins.Pre || d.ins.Write {
		d.regs.set(d.ins.Rn, beside)
	}
}

// bytesOf: how many a load or a store of one reaches.
func bytesOf(op int) int {
	switch op {
	case api.OpLDRB, api.OpSTRB, api.OpLDRSB:
		return 1
	case api.OpLDRH, api.OpSTRH, api.OpLDRSH:
		return 2
	}
	return wordBytes
}

// loadMany: the registers of a list (I20.4).
func (d *doing) loadMany() {
	d.many(func(reg int, at uint32) {
		d.regs.set(reg, d.access(api.Load, at, wordBytes, 0))
	})
}

// storeMany: the registers of a list (I20.4).
func (d *doing) storeMany() {
	d.many(func(reg int, at uint32) {
		d.access(api.Store, at, wordBytes, d.value(reg))
	})
}

// many: each register of the list with its address, the lowest ones first; then Rn is taken along, which is in no list that does so.
func (d *doing) many(each func(reg int, at uint32)) {
	i, base := d.ins, d.value(d.ins.Rn)
	size := uint32(wordBytes * bits.OnesCount16(i.List))
	at, behind := base, base+size
	if !i.Up {
		at, behind = base-size, base-size
	}
	if i.Up == i.Pre {
		at += wordBytes
	}
	for left := i.List; left != 0; left &= left - 1 {
		each(bits.TrailingZeros16(left), at)
		at += wordBytes
	}
	if i.Write {
		d.regs.set(i.Rn, behind)
	}
}
