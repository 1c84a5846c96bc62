package cpu_test

import (
	"math/bits"

	"atlas/alu"
	"atlas/api"
	"atlas/isa"
)

// model: the chapter, in its order, on one state; what stops an instruction is answered, and the state written last.
type model struct {
	s    api.State
	line bool
}

// take: the exception.
func (m *model) take(k api.Took, mode uint32, bank int, back, vector uint32) api.Took {
	m.s = entered(m.s, mode, bank, k.At+back, vector)
	return k
}

func (m *model) undefined(k api.Took) api.Took {
	k.Kind = api.TookUndef
	return m.take(k, api.ModeUND, 3, 4, 4)
}

// data: the abort of a load or a store.
func (m *model) data(k api.Took, a api.Access, f api.Fault) api.Took {
	k.Kind, k.VA, k.Fault, k.Store = api.TookData, a.VA, f, a.Kind == api.Store
	return m.take(k, api.ModeABT, 2, 8, 0x10)
}

// step: F20.4.
func (m *model) step(b api.Bus) api.Took {
	k := api.Took{At: m.s.PC}
	if m.line && m.s.CPSR>>7&1 == 0 {
		k.Kind = api.TookIRQ
		return m.take(k, api.ModeIRQ, 4, 4, 0x18)
	}
	a := b.Access(fetch(m.s).Access)
	if a.Fault != (api.Fault{}) {
		k.Kind, k.VA, k.Fault = api.TookPrefetch, k.At, a.Fault
		return m.take(k, api.ModeABT, 2, 4, 0xC)
	}
	k.Word = a.Value
	i, ok := isa.Decode(k.Word)
	if !ok {
		return m.undefined(k)
	}
	if !alu.Passed(i.Cond, alu.Flags(m.s.CPSR)) {
		m.s.PC += 4
		return k
	}
	return m.instruction(k, i, b)
}

// instruction: which of the sections it is of.
func (m *model) instruction(k api.Took, i api.Ins, b api.Bus) api.Took {
	switch {
	case i.Op <= api.OpMVN:
		return m.processing(k, i)
	case i.Op <= api.OpSXTH:
		return m.product(k, i)
	case i.Op <= api.OpLDRSH:
		return m.one(k, i, b)
	case i.Op <= api.OpSTM:
		return m.many(k, i, b)
	case i.Op <= api.OpBLX:
		return m.branch(k, i)
	case i.Op == api.OpSVC:
		k.Kind = api.TookSVC
		return m.take(k, api.ModeSVC, 1, 4, 8)
	case i.Op == api.OpBKPT:
		k.Kind, k.VA = api.TookPrefetch, k.At
		return m.take(k, api.ModeABT, 2, 4, 0xC)
	case i.Op <= api.OpMSR:
		return m.status(k, i)
	case i.Op <= api.OpMRC:
		return m.coprocessor(k, i, b)
	case i.Op == api.OpWFI && !m.line:
		k.Kind = api.TookWait
		return k
	}
	return m.done(k, nil)
}

// pair: a register, and what it gets.
type pair struct {
	reg int
	v   uint32
}

// done: the registers are written, in this order, behind the PC.
func (m *model) done(k api.Took, l []pair) api.Took {
	m.s.PC = k.At + 4
	for _, p := range l {
		put(&m.s, p.reg, p.v)
	}
	return k
}

// operand: of I20.1, and of the offsets.
func (m *model) operand(i api.Ins) (uint32, bool) {
	c := m.s.CPSR>>29&1 == 1
	if i.Form == api.FormImm {
		return alu.Expand(i.Imm, c)
	}
	if i.Form == api.FormRsr {
		return alu.Shift(i.Shift, read(m.s, i.Rm), int(read(m.s, i.Rs)%256), c)
	}
	kind, n := alu.Decode(i.Shift, i.Amount)
	return alu.Shift(kind, read(m.s, i.Rm), n, c)
}

// I20.1, but for MOVW and MOVT.
func (m *model) processing(k api.Took, i api.Ins) api.Took {
	second, carry := m.operand(i)
	w, to, f := alu.Do(i.Op, read(m.s, i.Rn), second, carry, alu.Flags(m.s.CPSR))
	if !to {
		m.s.CPSR = m.s.CPSR&0xFF | alu.Word(f)
		return m.done(k, nil)
	}
	if i.S && i.Rd == 15 {
		saved := m.s.SPSR[banks[m.s.CPSR&31]]
		if _, ok := banks[saved&31]; !ok {
			return m.undefined(k)
		}
		m.s.CPSR = saved
		return m.done(k, []pair{{15, w}})
	}
	if i.S {
		m.s.CPSR = m.s.CPSR&0xFF | alu.Word(f)
	}
	return m.done(k, []pair{{i.Rd, w}})
}

// I20.2, and MOVW and MOVT.
func (m *model) product(k api.Took, i api.Ins) api.Took {
	rm, rs, rd, ra := read(m.s, i.Rm), read(m.s, i.Rs), read(m.s, i.Rd), read(m.s, i.Ra)
	var l []pair
	var high, low uint32
	switch {
	case i.Op == api.OpMOVW:
		l = []pair{{i.Rd, i.Imm}}
	case i.Op == api.OpMOVT:
		l = []pair{{i.Rd, rd%65536 + i.Imm*65536}}
	case i.Op >= api.OpCLZ:
		w, _ := alu.Small(i.Op, rm, i.Amount)
		l = []pair{{i.Rd, w}}
	case i.Op <= api.OpMLA:
		_, high, _ = alu.Long(i.Op, rm, rs, 0, ra)
		l = []pair{{i.Rd, high}}
	default:
		high, low, _ = alu.Long(i.Op, rm, rs, rd, ra)
		l = []pair{{i.Ra, low}, {i.Rd, high}}
	}
	if i.S {
		m.s.CPSR = m.s.CPSR&0x300000FF | high&(1<<31)
		if high == 0 && low == 0 {
			m.s.CPSR |= 1 << 30
		}
	}
	return m.done(k, l)
}

// I20.3.
func (m *model) one(k api.Took, i api.Ins, b api.Bus) api.Took {
	offset := i.Imm
	if i.Form == api.FormReg {
		offset, _ = m.operand(i)
	}
	if !i.Up {
		offset = -offset
	}
	base := read(m.s, i.Rn)
	va := base
	if i.Pre {
		va += offset
	}
	bytes, store := kindOf(i.Op)
	a := access(m.s, store, va, bytes, read(m.s, i.Rd)).Access
	answer := b.Access(a)
	if answer.Fault != (api.Fault{}) {
		return m.data(k, a, answer.Fault)
	}
	var l []pair
	if i.Write || !i.Pre {
		l = append(l, pair{i.Rn, base + offset})
	}
	v := answer.Value
	if i.Op == api.OpLDRSB && v>>7&1 == 1 {
		v = v&0xFF | 0xFFFFFF00
	} else if i.Op == api.OpLDRSH && v>>15&1 == 1 {
		v = v&0xFFFF | 0xFFFF0000
	}
	if !store {
		l = append(l, pair{i.Rd, v})
	}
	return m.done(k, l)
}

// I20.4.
func (m *model) many(k api.Took, i api.Ins, b api.Bus) api.Took {
	var l []pair
	base, n := read(m.s, i.Rn), uint32(bits.OnesCount16(i.List))
	if i.Write {
		end := base - 4*n
		if i.Up {
			end = base + 4*n
		}
		l = append(l, pair{i.Rn, end})
	}
	va := firstOf(i, base)
	for reg := range 16 {
		if i.List>>reg%2 == 0 {
			continue
		}
		a := access(m.s, i.Op == api.OpSTM, va, 4, read(m.s, reg)).Access
		answer := b.Access(a)
		if answer.Fault != (api.Fault{}) {
			return m.data(k, a, answer.Fault)
		}
		if i.Op == api.OpLDM {
			l = append(l, pair{reg, answer.Value})
		}
		va += 4
	}
	return m.done(k, l)
}

// I20.5.
func (m *model) branch(k api.Took, i api.Ins) api.Took {
	to := k.At + 8 + i.Imm
	if i.Op == api.OpBX || i.Op == api.OpBLX {
		to = read(m.s, i.Rm)
	}
	l := []pair{{15, to}}
	if i.Op == api.OpBL || i.Op == api.OpBLX {
		l = append(l, pair{14, k.At + 4})
	}
	return m.done(k, l)
}

// I20.6.
func (m *model) status(k api.Took, i api.Ins) api.Took {
	bank := banks[m.s.CPSR&31]
	if i.S && bank == 0 {
		return m.undefined(k)
	}
	old := m.s.CPSR
	if i.S {
		old = m.s.SPSR[bank]
	}
	if i.Op == api.OpMRS {
		return m.done(k, []pair{{i.Rd, old}})
	}
	w := read(m.s, i.Rm)
	if i.Form == api.FormImm {
		w, _ = alu.Expand(i.Imm, false)
	}
	w = written(old, w, i.Amount, isUser(m.s))
	if i.S {
		m.s.SPSR[bank] = w
		return m.done(k, nil)
	}
	if _, ok := banks[w&31]; !ok {
		return m.undefined(k)
	}
	m.s.CPSR = w
	return m.done(k, nil)
}

// I20.7.
func (m *model) coprocessor(k api.Took, i api.Ins, b api.Bus) api.Took {
	if i.Op == api.OpMCR {
		if b.Mcr(i.Tuple, read(m.s, i.Rd), isUser(m.s)) != api.OK {
			return m.undefined(k)
		}
		return m.done(k, nil)
	}
	w, e := b.Mrc(i.Tuple, isUser(m.s))
	if e != api.OK {
		return m.undefined(k)
	}
	return m.done(k, []pair{{i.Rd, w}})
}
