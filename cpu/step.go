package cpu

import (
	"atlas/alu"
	"atlas/api"
	"atlas/isa"
)

// exception: its mode, how far behind the instruction its return address is, its vector.
type exception struct {
	mode         int
	back, vector uint32
}

// exceptionOf: what a step that came to this takes; the others have no mode.
func exceptionOf(kind int) exception {
	switch kind {
	case api.TookUndef:
		return exception{mode: api.ModeUND, back: 4, vector: 0x04}
	case api.TookSVC:
		return exception{mode: api.ModeSVC, back: 4, vector: 0x08}
	case api.TookPrefetch:
		return exception{mode: api.ModeABT, back: 4, vector: 0x0C}
	case api.TookData:
		return exception{mode: api.ModeABT, back: 8, vector: 0x10}
	case api.TookIRQ:
		return exception{mode: api.ModeIRQ, back: 4, vector: 0x18}
	}
	return exception{}
}

// abort: what an instruction gives up with, by panic: what the step comes to.
type abort struct{ took api.Took }

// doing: an instruction while it is done. The processor keeps its own registers till that has come to its end: so there is nothing to take back where it does not.
type doing struct {
	regs registers
	line bool
	bus  api.Bus
	ins  api.Ins
	took api.Took
}

// raise: the exception, if it is one, that a step came to.
func (c *CPU) raise(kind int) {
	if x := exceptionOf(kind); x.mode != 0 {
		c.regs.enter(x)
	}
}

// next: what a step comes to. The registers have changed only if that is TookNone.
func (c *CPU) next(b api.Bus) api.Took {
	took := api.Took{At: c.regs.PC}
	if c.line && c.regs.CPSR&maskBit == 0 {
		took.Kind = api.TookIRQ
		return took
	}
	fetched := b.Access(api.Access{Kind: api.Fetch, VA: took.At, Bytes: wordBytes, Priv: !c.regs.isUser()})
	if fetched.Fault.Kind != api.FNone {
		took.Kind, took.VA, took.Fault = api.TookPrefetch, took.At, fetched.Fault
		return took
	}
	took.Word = fetched.Value
	ins, ok := isa.Decode(took.Word)
	if !ok {
		took.Kind = api.TookUndef
		return took
	}
	return c.do(&doing{regs: c.regs, line: c.line, bus: b, ins: ins, took: took})
}

// do: what an instruction comes to, whose registers the processor has from then on if that is TookNone.
func (c *CPU) do(d *doing) api.Took {
	d.regs.PC = d.took.At + wordBytes
	if alu.Passed(d.ins.Cond, d.regs.flags()) {
		deeds()[d.ins.Op](d)
	}
	if d.took.Kind == api.TookNone {
		c.regs = d.regs
	}
	return d.took
}

// deeds: what the instructions do, by their numbers.
func deeds() [api.OpLast + 1]func(*doing) {
	return [...]func(*doing){
		api.OpAND: (*doing).data, api.OpEOR: (*doing).data, api.OpSUB: (*doing).data, api.OpRSB: (*doing).data,
		api.OpADD: (*doing).data, api.OpADC: (*doing).data, api.OpSBC: (*doing).data, api.OpRSC: (*doing).data,
		api.OpTST: (*doing).data, api.OpTEQ: (*doing).data, api.OpCMP: (*doing).data, api.OpCMN: (*doing).data,
		api.OpORR: (*doing).data, api.OpMOV: (*doing).data, api.OpBIC: (*doing).data, api.OpMVN: (*doing).data,
		api.OpMOVW: (*doing).half, api.OpMOVT: (*doing).upperHalf,
		api.OpMUL: (*doing).product, api.OpMLA: (*doing).product,
		api.OpUMULL: (*doing).longProduct, api.OpUMLAL: (*doing).longProduct,
		api.OpSMULL: (*doing).longProduct, api.OpSMLAL: (*doing).longProduct,
		api.OpCLZ: (*doing).small, api.OpREV: (*doing).small, api.OpUXTB: (*doing).small,
		api.OpUXTH: (*doing).small, api.OpSXTB: (*doing).small, api.OpSXTH: (*doing).small,
		api.OpLDR: (*doing).load, api.OpLDRB: (*doing).load, api.OpLDRH: (*doing).load,
		api.OpLDRSB: (*doing).load, api.OpLDRSH: (*doing).load,
		api.OpSTR: (*doing).store, api.OpSTRB: (*doing).store, api.OpSTRH: (*doing).store,
		api.OpLDM: (*doing).loadMany, api.OpSTM: (*doing).storeMany,
		api.OpB: (*doing).branch, api.OpBL: (*doing).branchLink,
		api.OpBX: (*doing).jump, api.OpBLX: (*doing).jumpLink,
		api.OpSVC: (*doing).call, api.OpBKPT: (*doing).stop,
		api.OpMRS: (*doing).readStatus, api.OpMSR: (*doing).writeStatus,
		api.OpMCR: (*doing).toCoprocessor, api.OpMRC: (*doing).fromCoprocessor,
		api.OpNOP: (*doing).nothing, api.OpWFI: (*doing).wait,
	}
}

// value: of a register, as an instruction reads it.
func (d *doing) value(n int) uint32 {
	if n == pc {
		return d.took.At + 2*wordBytes
	}
	return d.regs.get(n)
}

// access: what the bus answers; with a fault the instruction gives up.
func (d *doing) access(kind int, va uint32, bytes int, v uint32) uint32 {
	a := d.bus.Access(api.Access{Kind: kind, VA: va, Bytes: bytes, Value: v, Priv: !d.regs.isUser()})
	if a.Fault.Kind != api.FNone {
		took := d.took
		took.Kind, took.VA, took.Fault, took.Store = api.TookData, va, a.Fault, kind == api.Store
		panic(abort{took})
	}
	return a.Value
}
