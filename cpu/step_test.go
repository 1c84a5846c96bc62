package cpu_test

import (
	"strconv"
	"testing"

	"atlas/api"
	"atlas/cpu"
	"atlas/isa"
)

// memory: words from 0 on; there is nothing above.
type memory []uint32

func (m memory) Access(a api.Access) api.Answer {
	if a.VA/4 >= uint32(len(m)) || a.Bytes != 4 {
		return api.Answer{Fault: api.Fault{Kind: api.FTrans1}}
	}
	if a.Kind == api.Store {
		m[a.VA/4] = a.Value
		return api.Answer{}
	}
	return api.Answer{Value: m[a.VA/4]}
}

func (m memory) Mcr(api.Tuple, uint32, bool) api.Errno { return api.ErrUndef }

func (m memory) Mrc(api.Tuple, bool) (uint32, api.Errno) { return 0, api.ErrUndef }

// The chapter's examples.
func TestExamples(t *testing.T) {
	m := memory{0xE3A00005, 0xE2500005, 0x03A01001, 0xE59F2004, 0xEF000007, 0, 0x11223344}
	c := cpu.New()
	want := api.State{CPSR: 0x93}
	step := func(took api.Took, change func()) {
		t.Helper()
		change()
		if k, e := c.Step(m); k != took || e != api.OK || c.State() != want {
			t.Errorf("Step = %+v, %d: %x, want %+v: %x", k, e, c.State(), took, want)
		}
	}
	step(api.Took{At: 0, Word: m[0]}, func() { want.Low[0], want.PC = 5, 4 })
	step(api.Took{At: 4, Word: m[1]}, func() { want.Low[0], want.CPSR, want.PC = 0, 0x60000093, 8 })
	step(api.Took{At: 8, Word: m[2]}, func() { want.Low[1], want.PC = 1, 12 })
	step(api.Took{At: 12, Word: m[3]}, func() { want.Low[2], want.PC = 0x11223344, 16 })
	step(api.Took{Kind: api.TookSVC, At: 16, Word: m[4]}, func() { want.LR[1], want.SPSR[1], want.PC = 20, 0x60000093, 8 })
	if e := c.Return(0); e != api.OK || c.Reg(15) != 20 || c.State().CPSR != 0x60000093 {
		t.Errorf("Return = %d: %x", e, c.State())
	}
	step(api.Took{At: 20}, func() { want.PC = 24 })
}

// F20.4: without a bus nothing happens, not even the interrupt.
func TestStepWithoutBus(t *testing.T) {
	for _, line := range []bool{false, true} {
		for _, mode := range modes {
			s := full(mode)
			c := loaded(t, s)
			c.Line(line)
			if k, e := c.Step(nil); k != (api.Took{}) || e != api.ErrNil || c.State() != s {
				t.Errorf("Step(nil) = %+v, %d: %x", k, e, c.State())
			}
			if k, _ := c.Step(&bus{values: []uint32{0xE320F000}}); (k.Kind == api.TookIRQ) != line {
				t.Errorf("Step(nil) has changed the line: %+v", k)
			}
		}
	}
}

// F20.4, 1: the interrupt comes ahead of all else, where it is not masked.
func TestInterrupt(t *testing.T) {
	for _, mode := range modes {
		for _, f := range []uint32{0, flags("NZCV"), flags("ZV")} {
			s := full(mode)
			s.CPSR |= f
			b := &bus{faults: map[int]api.Fault{0: {Kind: api.FTrans1}}}
			expect(t, "the line is on", s, true, b, api.Took{Kind: api.TookIRQ, At: at}, entered(s, api.ModeIRQ, 4, at+4, 0x18))
			if len(b.asked) != 0 {
				t.Errorf("the interrupt asked the bus %+v", b.asked)
			}
			nop := &bus{values: []uint32{0xE320F000}}
			expectDone(t, "the line is off", s, nop, same)
			s.CPSR |= 0x80
			behind := s
			behind.PC += 4
			expect(t, "masked", s, true, &bus{values: nop.values}, api.Took{At: at, Word: nop.values[0]}, behind)
			expect(t, "masked", s, true, b, api.Took{Kind: api.TookPrefetch, At: at, VA: at, Fault: api.Fault{Kind: api.FTrans1}}, entered(s, api.ModeABT, 2, at+4, 0xC))
		}
	}
}

// F20.4, 1: it is taken once, and again behind its return, as long as the line is on.
func TestInterruptAgain(t *testing.T) {
	c := loaded(t, full(api.ModeUSR))
	c.Line(true)
	want := []int{api.TookIRQ, api.TookNone, api.TookIRQ, api.TookNone}
	for n, kind := range want {
		if k, _ := c.Step(&bus{values: []uint32{0xE320F000}}); k.Kind != kind {
			t.Errorf("step %d: %+v", n, k)
		}
		if n == 1 {
			if e := c.Return(4); e != api.OK || c.State().PC != at || c.State().CPSR != api.ModeUSR {
				t.Errorf("Return = %d: %x", e, c.State())
			}
		}
	}
}

// F20.4, 2: a fetch, and one that aborts, for each fault.
func TestFetch(t *testing.T) {
	for _, mode := range modes {
		for _, pc := range []uint32{0, 4, at, 0xFFFFFFF8, 0xFFFFFFFC} {
			s := full(mode)
			s.PC = pc
			b := &bus{values: []uint32{0xE320F000}}
			expectDone(t, "NOP", s, b, same)
			expectAsked(t, "NOP", b, s)
			for kind := api.FAlign; kind <= api.FBus; kind++ {
				f := api.Fault{Kind: kind, Level: kind % 3, Domain: kind}
				b := &bus{values: []uint32{0xE3A00005}, faults: map[int]api.Fault{0: f}}
				expect(t, "a fault", s, false, b, api.Took{Kind: api.TookPrefetch, At: pc, VA: pc, Fault: f}, entered(s, api.ModeABT, 2, pc+4, 0xC))
				expectAsked(t, "a fault", b, s)
			}
		}
	}
}

// F20.4, 3: a word that is undefined is so under every condition, and whatever the flags are.
func TestUndefinedWords(t *testing.T) {
	for _, w := range []uint32{
		0x07F000F0,                         // no row
		0x03A10001, 0x03101001, 0x016F0010, // rows with other bits
		0x00811092, 0x000F0291, // products with the register 15, or Rd twice
		0x04B10004, 0x08B10002, 0x08100000, // loads with what may not be
		0x012FFF1F, 0x0120F000, 0x010FF000,
		0x0C000000, 0x0E000000, 0x060000F0,
	} {
		for cond := range uint32(16) {
			for _, f := range []uint32{0, flags("NZCV")} {
				word := w&^0xF0000000 | cond<<28
				if _, ok := isa.Decode(word); ok {
					t.Fatalf("%#x is an instruction", word)
				}
				s := full(modes[cond%6])
				s.CPSR |= f
				b := &bus{values: []uint32{word}}
				expectUndefined(t, strconv.FormatUint(uint64(word), 16), s, b)
				expectAsked(t, "undefined", b, s)
			}
		}
	}
	for _, word := range []uint32{0xF3A00001, 0xFAFFFFFE, 0xFFFFFFFF, 0x01200070} { // the condition 15; BKPT under another one than 14
		expectUndefined(t, strconv.FormatUint(uint64(word), 16), full(api.ModeUSR), &bus{values: []uint32{word}})
	}
}

// holds: with which flags, of 8 * N + 4 * Z + 2 * C + V, a condition holds: the first character tells of 0.
var holds = [15]string{
	"....****....****", // Z
	"****....****....",
	"..**..**..**..**", // C
	"**..**..**..**..",
	"........********", // N
	"********........",
	".*.*.*.*.*.*.*.*", // V
	"*.*.*.*.*.*.*.*.",
	"..**......**....", // C and not Z
	"**..******..****",
	"*.*.*.*..*.*.*.*", // N is V
	".*.*.*.**.*.*.*.",
	"*.*......*.*....", // and not Z
	".*.*****" + "*.*.****",
	"****************",
}

// F20.4, 4, P2005: each condition, with all flags; one that does not hold changes the PC alone, and asks nothing.
func TestConditions(t *testing.T) {
	for cond, row := range holds {
		for f, holds := range row {
			for _, i := range []api.Ins{
				{Op: api.OpMOV, Form: api.FormImm, Rd: 3, Imm: 7},
				{Op: api.OpLDR, Form: api.FormImm, Rd: 3, Rn: 1, Pre: true},
				{Op: api.OpMRC, Rd: 3, Tuple: api.Tuple{CRn: 1}},
			} {
				i.Cond = cond
				w, e := isa.Encode(i)
				if e != api.OK {
					t.Fatal(i)
				}
				s := full(api.ModeUSR)
				s.CPSR |= uint32(f) << 28
				b := &bus{values: []uint32{w, 7}}
				if holds == '*' {
					expectDone(t, "it holds", s, b, func(s *api.State) { s.Low[3] = 7 })
					continue
				}
				expectDone(t, "it does not hold", s, b, same)
				expectAsked(t, "it does not hold", b, s)
			}
		}
	}
}

// F20.4, P2005: what does not hold is no exception, no branch, and no waiting.
func TestNotPassed(t *testing.T) {
	for _, i := range []api.Ins{
		{Op: api.OpSVC, Imm: 7}, {Op: api.OpWFI}, {Op: api.OpNOP}, {Op: api.OpB, Imm: 0x100}, {Op: api.OpBL, Imm: 0x100}, {Op: api.OpBX, Rm: 3}, {Op: api.OpBLX, Rm: 3},
		{Op: api.OpMRS, S: true}, {Op: api.OpMSR, Form: api.FormImm, Amount: 9}, {Op: api.OpMSR, S: true, Form: api.FormReg, Amount: 9, Rm: 1},
		{Op: api.OpMOV, S: true, Form: api.FormReg, Rd: 15, Rm: 14}, {Op: api.OpMCR}, {Op: api.OpSTM, Rn: 3, List: 7, Write: true}, {Op: api.OpSTR, Form: api.FormImm, Rn: 3},
	} {
		i.Cond = 0
		w, e := isa.Encode(i)
		if e != api.OK {
			t.Fatal(i)
		}
		s := full(api.ModeUSR)
		b := &bus{values: []uint32{w}, faults: map[int]api.Fault{1: {Kind: api.FPerm}}, refusal: api.ErrUndef}
		expectDone(t, "EQ without Z", s, b, same)
		expectAsked(t, "EQ without Z", b, s)
	}
}

// The table of exceptions: the mode, the bank, the return address, the vector, of each, from each mode, the flags as they were.
func TestExceptions(t *testing.T) {
	fault := api.Fault{Kind: api.FDomain, Level: 2, Domain: 5}
	for _, mode := range modes {
		for _, f := range []uint32{0, 0x80, flags("NZCV") | 0x80, flags("C"), flags("V")} {
			for _, pc := range []uint32{0, at, 0xFFFFFFFC, 0xFFFFFFF8} {
				s := full(mode)
				s.CPSR |= f
				s.PC = pc
				expect(t, "undefined", s, false, &bus{values: []uint32{0xE7F000F0}},
					api.Took{Kind: api.TookUndef, At: pc, Word: 0xE7F000F0}, entered(s, api.ModeUND, 3, pc+4, 4))
				expect(t, "SVC", s, false, &bus{values: []uint32{0xEFFFFFFF}},
					api.Took{Kind: api.TookSVC, At: pc, Word: 0xEFFFFFFF}, entered(s, api.ModeSVC, 1, pc+4, 8))
				expect(t, "BKPT", s, false, &bus{values: []uint32{0xE1200070}},
					api.Took{Kind: api.TookPrefetch, At: pc, Word: 0xE1200070, VA: pc}, entered(s, api.ModeABT, 2, pc+4, 0xC))
				expect(t, "a fetch", s, false, &bus{faults: map[int]api.Fault{0: fault}},
					api.Took{Kind: api.TookPrefetch, At: pc, VA: pc, Fault: fault}, entered(s, api.ModeABT, 2, pc+4, 0xC))
				expect(t, "a load", s, false, &bus{values: []uint32{0xE5910000}, faults: map[int]api.Fault{1: fault}},
					api.Took{Kind: api.TookData, At: pc, Word: 0xE5910000, VA: s.Low[1], Fault: fault}, entered(s, api.ModeABT, 2, pc+8, 0x10))
				expect(t, "a store", s, false, &bus{values: []uint32{0xE5810000}, faults: map[int]api.Fault{1: fault}},
					api.Took{Kind: api.TookData, At: pc, Word: 0xE5810000, VA: s.Low[1], Fault: fault, Store: true}, entered(s, api.ModeABT, 2, pc+8, 0x10))
				if s.CPSR&0x80 == 0 {
					expect(t, "the interrupt", s, true, &bus{}, api.Took{Kind: api.TookIRQ, At: pc}, entered(s, api.ModeIRQ, 4, pc+4, 0x18))
				}
			}
		}
	}
}

// P2006: a supervisor call, and Return(0) behind it, from each mode and at the end of the addresses.
func TestCallAndReturn(t *testing.T) {
	for _, mode := range modes {
		for _, pc := range []uint32{0, at, 0xFFFFFFFC} {
			s := full(mode)
			s.PC = pc
			s.CPSR |= flags("ZC")
			checkCall(t, s)
		}
	}
}

// checkCall: P2006, in that state.
func checkCall(t *testing.T, s api.State) {
	t.Helper()
	c := loaded(t, s)
	c.Step(&bus{values: []uint32{0xEF123456}})
	if e := c.Return(0); e != api.OK {
		t.Fatalf("%x: Return = %d", s, e)
	}
	s.PC += 4
	s.LR[1], s.SPSR[1] = s.PC, s.CPSR
	if c.State() != s {
		t.Fatalf("a call and its return: %x, want %x", c.State(), s)
	}
}

// F20.4, 5: WFI stays where it is as long as the line is off; with the line on, the interrupt masked, it is as NOP.
func TestWait(t *testing.T) {
	const wfi = 0xE320F003
	for _, mode := range modes {
		for _, mask := range []uint32{0, 0x80} {
			s := full(mode)
			s.CPSR |= mask | flags("NV")
			wait := api.Took{Kind: api.TookWait, At: at, Word: wfi}
			expect(t, "WFI", s, false, &bus{values: []uint32{wfi}}, wait, s)
			c := loaded(t, s)
			for range 3 {
				if k, _ := c.Step(&bus{values: []uint32{wfi}}); k != wait || c.State() != s {
					t.Errorf("it waits no more: %+v: %x", k, c.State())
				}
			}
			c.Line(true)
			want, took := s, api.Took{At: at, Word: wfi}
			want.PC += 4
			if mask == 0 {
				want, took = entered(s, api.ModeIRQ, 4, at+4, 0x18), api.Took{Kind: api.TookIRQ, At: at}
			}
			if k, _ := c.Step(&bus{values: []uint32{wfi}}); k != took || c.State() != want {
				t.Errorf("the line is on: %+v: %x, want %+v: %x", k, c.State(), took, want)
			}
		}
	}
}

// F20.4, 5: SVC and BKPT of all numbers are the same.
func TestNumbersOfCalls(t *testing.T) {
	s := full(api.ModeUSR)
	for _, n := range []uint32{0, 1, 7, 0x80, 0x8000, 0xFFFF, 0x10000, 0xFFFFFF} {
		w := 0xEF000000 | n
		expect(t, "SVC", s, false, &bus{values: []uint32{w}}, api.Took{Kind: api.TookSVC, At: at, Word: w}, entered(s, api.ModeSVC, 1, at+4, 8))
		w = 0xE1200070 | n>>4&0xFFF<<8 | n&15
		expect(t, "BKPT", s, false, &bus{values: []uint32{w}}, api.Took{Kind: api.TookPrefetch, At: at, Word: w, VA: at}, entered(s, api.ModeABT, 2, at+4, 0xC))
	}
}
