package cpu

import (
	"atlas/alu"
	"atlas/api"
)

// The registers that are not common to all modes.
const (
	sp = 13
	lr = 14
	pc = 15
)

// The kept bits of CPSR, and of each SPSR.
const (
	flagBits = 0xF0000000
	maskBit  = 1 << 7 // interrupts are masked
	modeBits = 0x1F
	keptBits = flagBits | maskBit | modeBits
)

// wordBytes: of an instruction, and of a register.
const wordBytes = 4

// registers: all of them; they are a state at all times.
type registers api.State

// isState: could a processor have these registers?
func isState(s api.State) bool {
	kept := s
	kept.PC = aligned(s.PC)
	kept.CPSR &= keptBits
	for bank := range kept.SPSR {
		kept.SPSR[bank] &= keptBits
	}
	kept.SPSR[0] = 0
	_, ok := Bank(modeOf(s.CPSR))
	return ok && kept == s
}

func isRegister(n int) bool { return n >= 0 && n <= pc }

// aligned: the lowest two bits cleared, as the PC has them.
func aligned(address uint32) uint32 { return address &^ (wordBytes - 1) }

// modeOf: of a status word; it may be none.
func modeOf(status uint32) int { return int(status & modeBits) }

// bank: of the mode.
func (r *registers) bank() int {
	bank, _ := Bank(modeOf(r.CPSR))
	return bank
}

func (r *registers) isUser() bool { return modeOf(r.CPSR) == api.ModeUSR }

func (r *registers) get(n int) uint32 { return *r.place(n) }

func (r *registers) set(n int, v uint32) {
	if n == pc {
		v = aligned(v)
	}
	*r.place(n) = v
}

// place: where a register of the mode stands.
func (r *registers) place(n int) *uint32 {
	switch n {
	case sp:
		return &r.SP[r.bank()]
	case lr:
		return &r.LR[r.bank()]
	case pc:
		return &r.PC
	}
	return &r.Low[n]
}

func (r *registers) flags() api.Flags { return alu.Flags(r.CPSR) }

func (r *registers) setFlags(f api.Flags) { r.CPSR = r.CPSR&^flagBits | alu.Word(f) }

// leave: out of an exception, to an address; false, if it can not be done. USR and SYS need no test of their own: what stands for their SPSR is 0, which has no mode.
func (r *registers) leave(to uint32) bool {
	saved := r.SPSR[r.bank()]
	if _, ok := Bank(modeOf(saved)); !ok {
		return false
	}
	r.CPSR = saved
	r.PC = aligned(to)
	return true
}

// enter: into an exception; the PC is the instruction's yet.
func (r *registers) enter(x exception) {
	bank, _ := Bank(x.mode)
	r.SPSR[bank] = r.CPSR
	r.LR[bank] = r.PC + x.back
	r.CPSR = r.CPSR&^modeBits | uint32(x.mode) | maskBit
	r.PC = x.vector
}
