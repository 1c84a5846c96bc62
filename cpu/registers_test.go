package cpu_test

import (
	"math"
	"testing"

	"atlas/api"
	"atlas/cpu"
)

// none: numbers that are no register.
var none = []int{-1, -2, -13, -14, -15, -16, 16, 17, 31, 45, 46, 47, 256, 1 << 32, 1<<32 + 3, math.MinInt, math.MaxInt}

// F20.1: New.
func TestNew(t *testing.T) {
	c, other := cpu.New(), cpu.New()
	want := api.State{CPSR: 0x93}
	if s := c.State(); s != want {
		t.Errorf("New: %x", s)
	}
	c.Set(0, 1)
	c.Set(13, 1)
	c.Line(true)
	if s := other.State(); s != want {
		t.Errorf("two processors share registers: %x", s)
	}
	other.Load(api.State{CPSR: 0x13})
	if k, _ := other.Step(&bus{values: []uint32{0xE320F000}}); k.Kind != api.TookNone {
		t.Errorf("the line of a new processor is on: %+v", k)
	}
}

// states: such as are, at the ends of what can be.
func states() []api.State {
	var all []api.State
	for _, mode := range modes {
		all = append(all, full(mode))
		for _, cpsr := range []uint32{1 << 31, 1 << 30, 1 << 29, 1 << 28, 1 << 7, 0xF0000080} {
			all = append(all, api.State{CPSR: cpsr | mode})
		}
	}
	for bank := 1; bank < 5; bank++ {
		for bit := range 32 {
			if s := full(api.ModeSVC); 0xF000009F>>bit&1 == 1 {
				s.SPSR[bank] = 1 << bit // also where that has no mode
				all = append(all, s)
			}
		}
	}
	high := full(api.ModeUSR)
	high.PC = 0xFFFFFFFC
	return append(all, high)
}

// spoilt: such as are none, each for one reason.
func spoilt() map[string][]api.State {
	all := map[string][]api.State{}
	spoil := func(why string, how func(s *api.State)) {
		s := full(api.ModeSVC)
		how(&s)
		all[why] = append(all[why], s)
	}
	for low := uint32(1); low < 4; low++ {
		spoil("the PC", func(s *api.State) { s.PC += low })
		spoil("the PC", func(s *api.State) { s.PC = 0xFFFFFFFC + low })
	}
	for bit := range 32 {
		kept := 0xF000009F>>bit&1 == 1
		if !kept {
			spoil("a bit of CPSR", func(s *api.State) { s.CPSR |= 1 << bit })
		}
		for bank := range 5 {
			if bank == 0 && kept {
				spoil("SPSR[0]", func(s *api.State) { s.SPSR[0] = 1 << bit })
			} else if !kept {
				spoil("a bit of an SPSR", func(s *api.State) { s.SPSR[bank] |= 1 << bit })
			}
		}
	}
	for mode := range uint32(32) {
		if _, ok := banks[mode]; !ok {
			spoil("a mode", func(s *api.State) { s.CPSR = mode })
			spoil("a mode", func(s *api.State) { s.CPSR = 0xF0000080 | mode })
		}
	}
	return all
}

// F20.1, P2001: Load of a state: the registers are that one.
func TestLoad(t *testing.T) {
	c := cpu.New()
	for _, s := range states() {
		for range 2 { // again, it changes nothing
			if e := c.Load(s); e != api.OK || c.State() != s {
				t.Errorf("Load(%x) = %d: %x", s, e, c.State())
			}
		}
	}
}

// F20.1: Load of none.
func TestLoadOfNone(t *testing.T) {
	c := cpu.New()
	kept := full(api.ModeABT)
	c.Load(kept)
	for why, all := range spoilt() {
		for _, s := range all {
			if e := c.Load(s); e != api.ErrState || c.State() != kept {
				t.Errorf("%s: Load(%x) = %d: %x", why, s, e, c.State())
			}
		}
	}
}

// F20.1: the line stays, whatever is loaded; F20.2: it is as it was set last.
func TestLoadLeavesTheLine(t *testing.T) {
	for _, on := range []bool{false, true} {
		for _, s := range []api.State{full(api.ModeUSR), {CPSR: 0x11}} {
			c := loaded(t, full(api.ModeSVC))
			c.Line(!on)
			c.Line(on)
			c.Load(s)
			want := map[bool]int{false: api.TookNone, true: api.TookIRQ}[on]
			if k, _ := c.Step(&bus{values: []uint32{0xE320F000}}); k.Kind != want {
				t.Errorf("the line was %v: %+v", on, k)
			}
		}
	}
}

// F20.2: the registers of each mode are those of its bank.
func TestReg(t *testing.T) {
	for _, mode := range modes {
		s := full(mode)
		c := loaded(t, s)
		for n := range 15 {
			if v := c.Reg(n); v != read(s, n) {
				t.Errorf("mode %#x: Reg(%d) = %#x, want %#x", mode, n, v, read(s, n))
			}
		}
		if v := c.Reg(15); v != at {
			t.Errorf("mode %#x: Reg(15) = %#x", mode, v)
		}
		for _, n := range none {
			if v := c.Reg(n); v != 0 {
				t.Errorf("Reg(%d) = %#x", n, v)
			}
		}
		if c.State() != s {
			t.Errorf("Reg has changed %x to %x", s, c.State())
		}
	}
}

// F20.2: what is set is that one register of the mode.
func TestSet(t *testing.T) {
	for _, mode := range modes {
		c := loaded(t, full(mode))
		want := full(mode)
		for n := range 15 {
			for _, v := range []uint32{0xFFFFFFFF, 3, 0x12345600 + uint32(n)} {
				c.Set(n, v)
				put(&want, n, v)
				if c.State() != want || c.Reg(n) != v {
					t.Errorf("mode %#x: Set(%d, %#x): %x, want %x", mode, n, v, c.State(), want)
				}
			}
		}
		for v, pc := range map[uint32]uint32{0: 0, 1: 0, 2: 0, 3: 0, 4: 4, 0x1237: 0x1234, 0xFFFFFFFF: 0xFFFFFFFC} {
			c.Set(15, v)
			want.PC = pc
			if c.State() != want || c.Reg(15) != pc {
				t.Errorf("mode %#x: Set(15, %#x): %x", mode, v, c.State())
			}
		}
		for _, n := range none {
			c.Set(n, 0xDEADBEEF)
			if c.State() != want {
				t.Errorf("mode %#x: Set(%d) has changed it to %x", mode, n, c.State())
			}
		}
	}
}

// F20.2: Bank of the modes, and of what is none.
func TestBank(t *testing.T) {
	wild := []int{math.MinInt, -1, -0x10, 32, 0x30, 0x50, 0x90, 0x93, 0x113, 0x1F + 32, 1<<32 + 0x10, 1<<32 + 0x13, 0x80000010, math.MaxInt}
	for mode := range 32 {
		wild = append(wild, mode)
	}
	for _, mode := range wild {
		want, ok := 0, false
		if mode >= 0 && mode < 32 {
			want, ok = banks[uint32(mode)]
		}
		if bank, is := cpu.Bank(mode); bank != want || is != ok {
			t.Errorf("Bank(%#x) = %d, %v, want %d, %v", mode, bank, is, want, ok)
		}
	}
}

// F20.3: to return, in each mode that can; the bank has what it had.
func TestReturn(t *testing.T) {
	for _, mode := range []uint32{api.ModeIRQ, api.ModeSVC, api.ModeABT, api.ModeUND} {
		for _, to := range modes {
			for _, c := range []struct{ lr, back, pc uint32 }{
				{0x1000, 0, 0x1000}, {0x1000, 4, 0xFFC}, {0x1000, 8, 0xFF8}, {0x1003, 0, 0x1000}, {0x1002, 4, 0xFFC},
				{0x1000, 1, 0xFFC}, {4, 8, 0xFFFFFFFC}, {0, 0xFFFFFFFC, 4}, {8, 0x80000000, 0x80000008},
			} {
				s := full(mode)
				put(&s, 14, c.lr)
				s.SPSR[banks[mode]] = 0xA0000080 | to
				p := loaded(t, s)
				s.CPSR = 0xA0000080 | to
				s.PC = c.pc
				if e := p.Return(c.back); e != api.OK || p.State() != s {
					t.Errorf("mode %#x, LR %#x: Return(%d) = %d: %x, want %x", mode, c.lr, c.back, e, p.State(), s)
				}
			}
		}
	}
}

// F20.3: where it can not be.
func TestReturnToNone(t *testing.T) {
	refuse := func(s api.State) {
		t.Helper()
		c := loaded(t, s)
		for _, back := range []uint32{0, 4, 8} {
			if e := c.Return(back); e != api.ErrReturn || c.State() != s {
				t.Errorf("%x: Return(%d) = %d: %x", s, back, e, c.State())
			}
		}
	}
	refuse(full(api.ModeUSR))
	refuse(full(api.ModeSYS))
	for mode, bank := range banks {
		for to := range uint32(32) {
			if _, ok := banks[to]; bank == 0 || ok {
				continue
			}
			s := full(mode)
			s.SPSR[bank] = 0xF0000080 | to
			refuse(s)
		}
	}
}
