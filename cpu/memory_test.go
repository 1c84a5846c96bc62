package cpu_test

import (
	"math/bits"
	"strconv"
	"testing"

	"atlas/api"
	"atlas/isa"
)

var bools = []bool{false, true}

// fault: one whose parts are all there.
var fault = api.Fault{Kind: api.FPerm, Level: 2, Domain: 3}

// kindOf: of a load or a store of one: how many bytes, whether it is a store.
func kindOf(op int) (bytes int, store bool) {
	bytes = map[int]int{api.OpLDR: 4, api.OpSTR: 4, api.OpLDRB: 1, api.OpSTRB: 1, api.OpLDRSB: 1, api.OpLDRH: 2, api.OpSTRH: 2, api.OpLDRSH: 2}[op]
	return bytes, op == api.OpSTR || op == api.OpSTRB || op == api.OpSTRH
}

// access: what a load or a store asks for.
func access(s api.State, store bool, va uint32, bytes int, value uint32) asked {
	a := api.Access{Kind: api.Load, VA: va, Bytes: bytes, Priv: !isUser(s)}
	if store {
		a.Kind, a.Value = api.Store, value
	}
	return asked{Access: a}
}

// expectAbort: of a data abort at that address, at the last thing that was asked.
func expectAbort(t *testing.T, text string, s api.State, b *bus, va uint32, store bool) {
	t.Helper()
	took := api.Took{Kind: api.TookData, At: s.PC, Word: b.values[0], VA: va, Fault: fault, Store: store}
	expect(t, text, s, false, b, took, entered(s, api.ModeABT, 2, s.PC+8, 0x10))
}

// one: a load or a store of one, whose offset is that; what it reads is v, which is to be the word in Rd.
func one(t *testing.T, s api.State, i api.Ins, offset, v, word uint32) {
	t.Helper()
	text := "op " + strconv.Itoa(i.Op)
	bytes, store := kindOf(i.Op)
	base := read(s, i.Rn)
	beside := base - offset
	if i.Up {
		beside = base + offset
	}
	va := base
	if i.Pre {
		va = beside
	}
	w := wordOf(t, i)
	b := &bus{values: []uint32{w, v}}
	want := access(s, store, va, bytes, read(s, i.Rd))
	expectDone(t, text, s, b, func(s *api.State) {
		if i.Write || !i.Pre {
			put(s, i.Rn, beside)
		}
		if !store {
			put(s, i.Rd, word)
		}
	})
	expectAsked(t, text, b, s, want)
	b = &bus{values: []uint32{w, v}, faults: map[int]api.Fault{1: fault}}
	expectAbort(t, text, s, b, va, store)
	expectAsked(t, text, b, s, want)
}

// ways: before and behind, up and down, with Write and without, as far as an instruction may be so.
func ways(i api.Ins) []api.Ins {
	var all []api.Ins
	for _, up := range bools {
		i.Up = up
		i.Pre, i.Write = true, false
		all = append(all, i)
		i.Write = true
		all = append(all, i)
		i.Pre, i.Write = false, false
		all = append(all, i)
	}
	return all
}

// loads: what is read, and the word of it.
func loads(op int) map[uint32]uint32 {
	switch op {
	case api.OpLDRB:
		return map[uint32]uint32{0: 0, 0x7F: 0x7F, 0x80: 0x80, 0xFF: 0xFF}
	case api.OpLDRH:
		return map[uint32]uint32{0: 0, 0x7FFF: 0x7FFF, 0x8000: 0x8000, 0x80: 0x80, 0xFFFF: 0xFFFF}
	case api.OpLDRSB:
		return map[uint32]uint32{0: 0, 0x7F: 0x7F, 0x80: 0xFFFFFF80, 0xFF: 0xFFFFFFFF}
	case api.OpLDRSH:
		return map[uint32]uint32{0: 0, 0x7FFF: 0x7FFF, 0x8000: 0xFFFF8000, 0x80: 0x80, 0xFFFF: 0xFFFFFFFF}
	}
	return map[uint32]uint32{0: 0, 0x80: 0x80, 0x8000: 0x8000, 0x80000003: 0x80000003, 0xFFFFFFFF: 0xFFFFFFFF}
}

var oneOps = []int{api.OpLDR, api.OpSTR, api.OpLDRB, api.OpSTRB, api.OpLDRH, api.OpSTRH, api.OpLDRSB, api.OpLDRSH}

// I20.3: all of them by a number, in all ways, in each mode, with bases and offsets that wrap.
func TestOneByNumber(t *testing.T) {
	for _, op := range oneOps {
		for _, mode := range modes {
			for _, i := range ways(api.Ins{Op: op, Form: api.FormImm, Rd: 3, Rn: 1}) {
				for _, base := range []uint32{0x1001, 0, 1, 0xFFFFFFFF, 0xFFFFFFFC} {
					for _, i.Imm = range []uint32{0, 1, 4, 0xFF} {
						s := full(mode)
						s.Low[1], s.Low[3] = base, 0x9ABCDEF1
						for v, word := range loads(op) {
							one(t, s, i, i.Imm, v, word)
						}
					}
				}
			}
		}
	}
	s := full(api.ModeUSR)
	for _, i := range ways(api.Ins{Op: api.OpLDR, Form: api.FormImm, Rd: 3, Rn: 1, Imm: 0xFFF}) {
		one(t, s, i, 0xFFF, 5, 5)
	}
}

// I20.3: by a register, which those of words and bytes shift.
func TestOneByRegister(t *testing.T) {
	for _, op := range oneOps {
		for _, far := range []uint32{0, 1, 0x1000, 0x80000001, 0xFFFFFFFF} {
			for _, i := range ways(api.Ins{Op: op, Form: api.FormReg, Rd: 3, Rn: 1, Rm: 2}) {
				s := full(api.ModeUSR)
				s.Low[2] = far
				one(t, s, i, far, 1, 1)
				if op > api.OpSTRB {
					continue
				}
				for kind := api.ShLSL; kind <= api.ShROR; kind++ {
					i.Shift, i.Amount = kind, 3
					offset, _ := bitByBit(kind, far, 3, false)
					one(t, s, i, offset, 1, 1)
				}
			}
		}
	}
}

// I20.3: shifts that no bits are left for: of the whole word, and through the carry, which stays.
func TestOneByCarry(t *testing.T) {
	for _, carry := range bools {
		s := full(api.ModeUSR)
		s.Low[2] = 0x80000003
		turned := uint32(0x40000001)
		if carry {
			s.CPSR |= flags("C")
			turned = 0xC0000001
		}
		for _, i := range ways(api.Ins{Op: api.OpLDR, Form: api.FormReg, Rd: 3, Rn: 1, Rm: 2}) {
			for kind, offset := range []uint32{0x80000003, 0, 0xFFFFFFFF, turned} {
				i.Shift = kind
				one(t, s, i, offset, 9, 9)
			}
		}
	}
}

// I20.3: registers that are one, those of the mode, and the PC.
func TestOneOfAllRegisters(t *testing.T) {
	for _, mode := range modes {
		for _, form := range []int{api.FormImm, api.FormReg} {
			for n := range 16 * 16 * 16 {
				rd, rn, rm := n&15, n>>4&15, n>>8
				if form == api.FormImm && rm != 0 {
					continue
				}
				for _, op := range []int{api.OpLDR, api.OpSTR, api.OpLDRSH, api.OpSTRB} {
					for _, i := range ways(api.Ins{Cond: always, Op: op, Form: form, Rd: rd, Rn: rn, Rm: rm}) {
						if (n+op)%7 != 0 || !isa.Right(i) { // some of them tell as much as all
							continue
						}
						s := full(mode)
						offset := uint32(0)
						if form == api.FormReg {
							offset = read(s, rm)
						}
						one(t, s, i, offset, 0x7F3, 0x7F3)
					}
				}
			}
		}
	}
}

// I20.3: a load into the PC goes there, its lowest two bits cleared, and is no exception's return.
func TestLoadIntoPC(t *testing.T) {
	for _, mode := range modes {
		for low := range uint32(4) {
			s := full(mode)
			b := &bus{values: []uint32{0xE491F004, 0x7000 + low}} // LDR PC, [R1], #4
			expectDone(t, "LDR PC", s, b, func(s *api.State) { s.Low[1], s.PC = s.Low[1]+4, 0x7000 })
		}
	}
}

// I20.3: a store stores all of Rd, of a byte and of a half too.
func TestStoredWord(t *testing.T) {
	for word, bytes := range map[uint32]int{0xE5C13000: 1, 0xE1C130B0: 2, 0xE5813000: 4} { // STRB, STRH, STR R3, [R1]
		s := full(api.ModeSVC)
		s.Low[3] = 0x89ABCDEF
		b := &bus{values: []uint32{word}}
		expectDone(t, "a store", s, b, same)
		expectAsked(t, "a store", b, s, asked{Access: api.Access{Kind: api.Store, VA: s.Low[1], Bytes: bytes, Value: 0x89ABCDEF, Priv: true}})
	}
}

// firstOf: where the first access of many is.
func firstOf(i api.Ins, base uint32) uint32 {
	n := uint32(bits.OnesCount16(i.List))
	switch {
	case i.Up && i.Pre:
		return base + 4
	case i.Up:
		return base
	case i.Pre:
		return base - 4*n
	}
	return base - 4*n + 4
}

// many: a load or a store of many, done and stopped at each of its accesses.
func many(t *testing.T, s api.State, i api.Ins) {
	t.Helper()
	text := "the list " + strconv.FormatUint(uint64(i.List), 2)
	store := i.Op == api.OpSTM
	base := read(s, i.Rn)
	values := []uint32{wordOf(t, i)}
	behind := s
	var want []asked
	for reg := range 16 {
		if i.List>>reg&1 == 0 {
			continue
		}
		va := firstOf(i, base) + 4*uint32(len(want))
		want = append(want, access(s, store, va, 4, read(s, reg)))
		values = append(values, 0xC0DE0003+uint32(reg)<<8)
	}
	end := base - 4*uint32(len(want))
	if i.Up {
		end = base + 4*uint32(len(want))
	}
	b := &bus{values: values}
	expectDone(t, text, s, b, func(s *api.State) {
		if i.Write {
			put(s, i.Rn, end)
		}
		for reg, n := 0, 1; reg < 16 && !store; reg++ {
			if i.List>>reg&1 == 1 {
				put(s, reg, values[n])
				n++
			}
		}
	})
	expectAsked(t, text, b, s, want...)
	for n, a := range want {
		b := &bus{values: values, faults: map[int]api.Fault{n + 1: fault}}
		expectAbort(t, text, s, b, a.Access.VA, store)
		expectAsked(t, text, b, s, want[:n+1]...)
	}
	if behind != s {
		t.Fatal("the test has changed its own state")
	}
}

// I20.4: in all four ways, with Write and without, with the base in the list or not, with the PC in it, with bases that wrap.
func TestMany(t *testing.T) {
	lists := []uint16{1, 2, 1 << 7, 1 << 12, 1 << 13, 1 << 14, 1 << 15, 3, 0x000E, 0x00F0, 0x5555, 0xAAAA, 0x7FFF, 0xFFFF, 0x8010, 0x8001, 0xE000, 0x4010}
	for _, mode := range modes {
		for _, op := range []int{api.OpLDM, api.OpSTM} {
			for way := range 8 {
				for _, list := range lists {
					for _, rn := range []int{0, 1, 4, 12, 13, 14} {
						i := api.Ins{Cond: always, Op: op, Rn: rn, List: list, Pre: way&1 == 1, Up: way&2 == 2, Write: way&4 == 4}
						if !isa.Right(i) {
							continue
						}
						for _, base := range []uint32{0x10000, 0x1003, 0, 4, 0xFFFFFFFC} {
							s := full(mode)
							put(&s, rn, base)
							many(t, s, i)
						}
					}
				}
			}
		}
	}
}

// I20.4: by hand.
func TestManyByHand(t *testing.T) {
	for _, c := range []struct {
		word   uint32
		vas    []uint32
		behind uint32 // SP
	}{
		{0xE8BD8010, []uint32{0x1000, 0x1004}, 0x1008}, // LDMIA SP!, {R4, PC}
		{0xE99D8010, []uint32{0x1004, 0x1008}, 0x1000}, // LDMIB SP, {R4, PC}
		{0xE83D8010, []uint32{0xFFC, 0x1000}, 0xFF8},   // LDMDA SP!, {R4, PC}
		{0xE91D8010, []uint32{0xFF8, 0xFFC}, 0x1000},   // LDMDB SP, {R4, PC}
		{0xE93D0010, []uint32{0xFFC}, 0xFFC},           // LDMDB SP!, {R4}
	} {
		s := full(api.ModeUND)
		s.SP[3] = 0x1000
		b := &bus{values: []uint32{c.word, 0x44, 0x2003}}
		var want []asked
		for _, va := range c.vas {
			want = append(want, access(s, false, va, 4, 0))
		}
		expectDone(t, "LDM", s, b, func(s *api.State) {
			s.Low[4], s.SP[3] = 0x44, c.behind
			if len(c.vas) == 2 {
				s.PC = 0x2000
			}
		})
		expectAsked(t, "LDM", b, s, want...)
	}
	s := full(api.ModeUSR)
	s.SP[0] = 0x1000
	b := &bus{values: []uint32{0xE92D4010}} // STMDB SP!, {R4, LR}
	expectDone(t, "STMDB", s, b, func(s *api.State) { s.SP[0] = 0xFF8 })
	expectAsked(t, "STMDB", b, s, access(s, true, 0xFF8, 4, s.Low[4]), access(s, true, 0xFFC, 4, s.LR[0]))
}

// P2002: a step that aborts leaves the registers; done again behind Return, over a bus without the fault, it does what it would have done.
func TestDoneAgain(t *testing.T) {
	for _, mode := range modes {
		for _, word := range []uint32{
			0xE8B0000E, 0xE8B1800C, 0xE820001E, 0xE9B40C0F, 0xE5B13004, 0xE4913004, 0xE6813002, 0xE7A13002, 0xE0D130F2, 0xE491F004, 0xE59F3010,
		} {
			for turn := range 5 {
				s := full(mode)
				values := []uint32{word, 0x11, 0x22, 0x33, 0x44}
				c, untouched := loaded(t, s), loaded(t, s)
				took, _ := c.Step(&bus{values: values, faults: map[int]api.Fault{turn: fault}})
				if took.Kind == api.TookNone {
					continue // it makes less accesses
				}
				back := map[int]uint32{api.TookPrefetch: 4, api.TookData: 8}[took.Kind]
				if e := c.Return(back); e != api.OK {
					t.Errorf("%#x: Return(%d) = %d", word, back, e)
				}
				again, want := &bus{values: values}, &bus{values: values}
				if got := withoutAbort(c.State()); got != withoutAbort(s) {
					t.Errorf("%#x, a fault at %d: %x, want %x", word, turn, got, s)
				}
				if banks[mode] == 2 { // the abort's own bank is lost to it
					continue
				}
				c.Step(again)
				untouched.Step(want)
				if withoutAbort(c.State()) != withoutAbort(untouched.State()) {
					t.Errorf("%#x, done again: %x, want %x", word, c.State(), untouched.State())
				}
				expectAsked(t, "done again", again, s, want.asked[1:]...)
			}
		}
	}
}

// withoutAbort: the state but for LR and SPSR of ABT.
func withoutAbort(s api.State) api.State {
	s.LR[2], s.SPSR[2] = 0, 0
	return s
}
