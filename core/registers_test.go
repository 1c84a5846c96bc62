package core_test

import (
	"testing"

	"atlas/api"
)

// expectRefused: an instruction that the coprocessor does not take: it is undefined, and no step of the machine but its fetch.
func expectRefused(t *testing.T, mode uint32, isOn bool, line string) {
	t.Helper()
	c := begin(t, mode, isOn, line)
	c.Set(1, 0x00000C0D)
	var ahead [api.Registers]uint32
	for reg := range ahead {
		ahead[reg] = c.Machine().Reg(reg)
	}
	expectStep(t, c, line, api.Took{Kind: api.TookUndef, At: code, Word: wordOf(t, 0, line)})
	expectEvents(t, c, line, touched(code))
	for reg, w := range ahead {
		if c.Machine().Reg(reg) != w {
			t.Errorf("%s: the register %d is %#x, and was %#x", line, reg, c.Machine().Reg(reg), w)
		}
	}
	if c.Reg(1) != 0x00000C0D || c.Reg(15) != 4 || c.State().LR[3] != code+4 {
		t.Errorf("%s: the state is %x", line, c.State())
	}
}

// TestRefused: tuples that name nothing, operations that are read, and what users may not.
func TestRefused(t *testing.T) {
	for _, isOn := range []bool{false, true} {
		for _, mode := range []uint32{api.ModeUSR, api.ModeSVC, api.ModeSYS} {
			for _, line := range []string{
				"mcr p15, #0, r1, c1, c0, #1", "mrc p15, #0, r1, c1, c0, #1", "mcr p15, #1, r1, c1, c0, #0", "mrc p15, #0, r1, c2, c1, #0",
				"mcr p15, #0, r1, c15, c15, #7", "mcr p15, #0, r1, c8, c5, #3", "mrc p15, #0, r1, c8, c7, #0", "mrc p15, #0, r1, c7, c8, #0", "mrc p15, #0, r1, c7, c10, #4",
			} {
				expectRefused(t, mode, isOn, line)
			}
		}
		for _, line := range []string{
			"mcr p15, #0, r1, c1, c0, #0", "mrc p15, #0, r1, c1, c0, #0", "mcr p15, #0, r1, c3, c0, #0", "mrc p15, #0, r1, c5, c0, #0",
			"mcr p15, #0, r1, c8, c7, #0", "mcr p15, #0, r1, c7, c8, #2", "mcr p15, #0, r1, c13, c0, #1",
		} {
			expectRefused(t, api.ModeUSR, isOn, line)
		}
	}
}

// TestBarriers: a user may, and each is a step.
func TestBarriers(t *testing.T) {
	for _, mode := range []uint32{api.ModeUSR, api.ModeIRQ, api.ModeSYS} {
		for line, addr := range map[string]uint64{"mcr p15, #0, r1, c7, c5, #4": 0x7054, "mcr p15, #0, r1, c7, c10, #4": 0x70A4, "mcr p15, #0, r1, c7, c10, #5": 0x70A5} {
			c := begin(t, mode, true, line)
			c.Set(1, 6)
			expectDone(t, c, line)
			expectEvents(t, c, line, touched(code), api.Event{Kind: api.EvReg, Addr: addr, Value: 6})
		}
	}
}

// TestRegisters: what is written is the machine's, and what is read is.
func TestRegisters(t *testing.T) {
	lines := []string{"mcr p15, #0, r1, c3, c0, #0", "mrc p15, #0, r2, c3, c0, #0", "mcr p15, #0, r1, c5, c0, #1", "mrc p15, #0, r3, c5, c0, #1", "mcr p15, #0, r1, c6, c0, #2"}
	for _, mode := range []uint32{api.ModeIRQ, api.ModeSVC, api.ModeABT, api.ModeUND, api.ModeSYS} {
		c := begin(t, mode, false, lines...)
		c.Set(1, 0x89ABCDEF)
		expectDone(t, c, lines...)
		if c.Reg(2) != 0x89ABCDEF || c.Reg(3) != 0x89ABCDEF&0x140F {
			t.Errorf("R2 %#x, R3 %#x", c.Reg(2), c.Reg(3))
		}
		if m := c.Machine(); m.Reg(api.RegDACR) != 0x89ABCDEF || m.Reg(api.RegIFSR) != 0x89ABCDEF&0x140F || m.Reg(api.RegIFAR) != 0x89ABCDEF {
			t.Errorf("DACR %#x, IFSR %#x, IFAR %#x", m.Reg(api.RegDACR), m.Reg(api.RegIFSR), m.Reg(api.RegIFAR))
		}
		expectEvents(t, c, "registers",
			touched(code), api.Event{Kind: api.EvReg, Addr: 0x3000, Value: 0x89ABCDEF}, touched(code+4), // a read is no step
			touched(code+8), api.Event{Kind: api.EvReg, Addr: 0x5001, Value: 0x89ABCDEF}, touched(code+12),
			touched(code+16), api.Event{Kind: api.EvReg, Addr: 0x6002, Value: 0x89ABCDEF})
	}
}

// TestFaultRead: the program reads in the registers what its abort is told by, and goes on behind it.
func TestFaultRead(t *testing.T) {
	c := begin(t, api.ModeUSR, true, "str r1, [r0]", "nop")
	lines := []string{"mrc p15, #0, r2, c5, c0, #0", "mrc p15, #0, r3, c6, c0, #0", "sub lr, lr, #4", "movs pc, lr"}
	place(t, c.Machine(), 0x10, lines...)
	c.Set(0, 2*mib+4)
	c.Step()
	expectDone(t, c, lines...)
	expectDone(t, c, "nop")
	if c.Reg(2) != 0x81D || c.Reg(3) != 2*mib+4 || c.State().CPSR != api.ModeUSR {
		t.Errorf("R2 %#x, R3 %#x, CPSR %#x", c.Reg(2), c.Reg(3), c.State().CPSR)
	}
}

// TestDrops: the drops of the TLBs, and their steps.
func TestDrops(t *testing.T) {
	for line, addr := range map[string]uint64{
		"mcr p15, #0, r1, c8, c7, #0": api.TlbiAll, "mcr p15, #0, r1, c8, c5, #0": api.TlbiAll, "mcr p15, #0, r1, c8, c6, #1": api.TlbiMva, "mcr p15, #0, r1, c8, c3, #2": api.TlbiAsid, "mcr p15, #0, r1, c8, c7, #3": api.TlbiMvaa,
	} {
		c := begin(t, api.ModeSVC, true, "ldr r2, [r0]", line)
		at := uint32(7*mib + 0x7000) // not global
		c.Set(0, at)
		c.Set(1, at+0)
		expectDone(t, c, "ldr r2, [r0]")
		c.Machine().Events()
		expectDone(t, c, line)
		value := map[uint64]uint32{api.TlbiAll: 0, api.TlbiMva: at, api.TlbiAsid: 0, api.TlbiMvaa: at}[addr]
		expectEvents(t, c, line, touched(code+4), api.Event{Kind: api.EvDrop, Addr: addr, Value: value})
		for _, which := range []int{api.TlbD, api.TlbMain} {
			for _, slot := range c.Machine().Places(which) {
				if slot.Full && slot.Block.Trans.VA == at {
					t.Errorf("%s: it stands in the TLB %d still", line, which)
				}
			}
		}
	}
}

// TestAsked: what is asked for a translation is told in PAR.
func TestAsked(t *testing.T) {
	lines := []string{"mcr p15, #0, r1, c7, c8, #0", "mrc p15, #0, r2, c7, c4, #0", "mcr p15, #0, r1, c7, c8, #2", "mrc p15, #0, r3, c7, c4, #0"}
	c := begin(t, api.ModeSVC, true, lines...)
	c.Set(1, 7*mib+0x2000)
	expectDone(t, c, lines...)
	if c.Reg(2) != data+0x90 || c.Reg(3) != 0x1F {
		t.Errorf("PAR was %#x and %#x", c.Reg(2), c.Reg(3))
	}
	expectEvents(t, c, "asked", touched(code), api.Event{Kind: api.EvAt, Addr: 7*mib + 0x2000, Value: data + 0x90}, touched(code+4),
		touched(code+8), api.Event{Kind: api.EvAt, Addr: 7*mib + 0x2000, Value: 0x1F}, touched(code+12))
	if m := c.Machine(); m.Reg(api.RegDFSR) != 0 || m.Reg(api.RegDFAR) != 0 {
		t.Error("what is asked for is told as a fault")
	}
}
