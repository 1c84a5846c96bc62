package core_test

import (
	"testing"

	"atlas/api"
	"atlas/core"
)

// page: the address of the page that the tests store over, whose descriptor stands at tableA + 4.
const page = 7*mib + 0x1000

// TestTurned: the program itself writes its tables, turns the context on, ASIDs and tables anew, and off again.
func TestTurned(t *testing.T) {
	m := newMachine(t, small)
	c := over(t, m)
	lines := []string{
		"str r1, [r0]", "str r2, [r0, #4]", // a section at 0, and one at 1 MiB, both at 0
		"mcr p15, #0, r0, c2, c0, #0", "mcr p15, #0, r3, c3, c0, #0", "mcr p15, #0, r3, c1, c0, #0",
		"ldr r4, [r5]", "str r4, [r5, #4]",
		"mcr p15, #0, r6, c13, c0, #1", "ldr r8, [r5, #4]",
		"mcr p15, #0, r7, c1, c0, #0", "ldr r9, [r5]",
	}
	place(t, m, code, lines...)
	jump(t, c, api.ModeSVC, code)
	must(t, m.Poke(data, 0x1234))
	for n, v := range []uint32{root, 0x00000C02, 0x00020C02, 1, 0, mib + data, 0x105, 0} {
		c.Set(n, v)
	}
	expectDone(t, c, lines[:10]...)
	if c.Reg(4) != 0x1234 || c.Reg(8) != 0x1234 || word(t, m, data+4) != 0x1234 || m.Context().On || m.Context().Asid != 5 {
		t.Errorf("R4 %#x, R8 %#x, the context %+v", c.Reg(4), c.Reg(8), m.Context())
	}
	expectStep(t, c, "off again", api.Took{Kind: api.TookData, At: code + 40, Word: wordOf(t, 0, lines[10]), VA: mib + data, Fault: api.Fault{Kind: api.FBus}})
}

// TestTurnedAway: a program that turns the context to where it does not stand is not fetched any more.
func TestTurnedAway(t *testing.T) {
	for _, warm := range []bool{false, true} { // with the program's section in a TLB, or without
		c := begin(t, api.ModeSVC, true, "mcr p15, #0, r1, c2, c0, #0", "nop")
		c.Set(1, 0x40000)
		if !warm {
			must(t, c.Machine().Noise([]api.Noise{{}, {Act: api.NEvict, Which: api.TlbI}, {Act: api.NEvict, Which: api.TlbMain}}))
		}
		expectDone(t, c, "mcr p15, #0, r1, c2, c0, #0")
		if warm {
			expectDone(t, c, "nop") // it is Stale, and the TLB answers
			continue
		}
		must(t, c.Machine().Noise([]api.Noise{{Act: api.NEvict, Which: api.TlbMain}}))
		expectStep(t, c, "turned away", api.Took{Kind: api.TookPrefetch, At: code + 4, VA: code + 4, Fault: api.Fault{Kind: api.FTrans1}})
	}
}

// storing: a program that loads through a page, stores over its descriptor, loads again, drops, and loads.
func storing(t *testing.T) *core.Core {
	t.Helper()
	c := begin(t, api.ModeSVC, true, "ldr r1, [r0]", "str r3, [r2]", "ldr r4, [r0]", "mcr p15, #0, r0, c8, c7, #0", "ldr r5, [r0]")
	must(t, c.Machine().Poke(data, 11))
	must(t, c.Machine().Poke(data+0x3000, 22))
	for n, v := range []uint32{page, 0, tableA + 4, data + 0x3032} {
		c.Set(n, v)
	}
	return c
}

// TestStoredOver: what a TLB has is seen till it is dropped.
func TestStoredOver(t *testing.T) {
	c := storing(t)
	m := c.Machine()
	c.Run(2)
	if !m.Stale(0, page) || m.Stale(0, data) {
		t.Error("the page is not Stale")
	}
	c.Run(1)
	if c.Reg(1) != 11 || c.Reg(4) != 11 || !m.Stale(0, page) {
		t.Errorf("ahead of the drop: R1 %d, R4 %d", c.Reg(1), c.Reg(4))
	}
	c.Run(2)
	if c.Reg(5) != 22 || m.Stale(0, page) || c.Count() != 5 {
		t.Errorf("behind the drop: R5 %d", c.Reg(5))
	}
}

// TestStoredOverNoise: the outer world empties the places, and the load comes to what the walk finds.
func TestStoredOverNoise(t *testing.T) {
	c := storing(t)
	m := c.Machine()
	c.Run(2)
	var noise []api.Noise
	for slot := range 2 {
		noise = append(noise, api.Noise{Act: api.NEvict, Which: api.TlbD, Slot: slot}, api.Noise{Act: api.NEvict, Which: api.TlbMain, Slot: slot})
	}
	must(t, m.Noise(noise))
	for range 3 { // steps of the machine that take the noise
		must(t, m.Poke(data+0x8000, 1))
	}
	c.Run(1)
	if c.Reg(4) != 22 || m.Left() != 0 {
		t.Errorf("emptied: R4 %d, %d wait", c.Reg(4), m.Left())
	}
	c = storing(t)
	m = c.Machine()
	c.Run(2)
	must(t, m.Noise([]api.Noise{{Act: api.NEvict, Which: api.TlbD}, {Act: api.NFill, VA: page}}))
	c.Run(1)
	if c.Reg(4) != 11 {
		t.Errorf("fetched anew from the main one: R4 %d", c.Reg(4))
	}
}

// TestConflict: a page and a section of one address, both in a TLB.
func TestConflict(t *testing.T) {
	c := begin(t, api.ModeSVC, true, "ldr r1, [r0]", "str r3, [r2]", "ldr r1, [r4]", "ldr r1, [r0]")
	for n, v := range []uint32{page, 0, root + 4*7, 0x00000C22, 7*mib + data} {
		c.Set(n, v)
	}
	must(t, c.Machine().Noise([]api.Noise{{}, {}, {}, {}, {Pick: 1}, {Pick: 1}, {Pick: 1}}))
	if made, took := c.Run(9); made != 4 || took != (api.Took{Kind: api.TookData, At: code + 12, Word: wordOf(t, 0, "ldr r1, [r0]"), VA: page, Fault: api.Fault{Kind: api.FConflict}}) {
		t.Errorf("Run = %d, %+v", made, took)
	}
	expectTold(t, c, "a conflict", api.Fault{Kind: api.FConflict}, page, false, false)
}

// TestNoiseTaken: each access, and each word that the coprocessor takes, takes one of the noise; what is refused or read takes none.
func TestNoiseTaken(t *testing.T) {
	c := begin(t, api.ModeSVC, true, "ldmia r0, {r1-r3}", "mcr p15, #0, r4, c13, c0, #1", "mrc p15, #0, r4, c13, c0, #1", "mcr p15, #0, r4, c15, c0, #0", "nop")
	c.Set(0, page)
	m := c.Machine()
	must(t, m.Noise(make([]api.Noise, 20)))
	for n, left := range []int{16, 14, 13, 12, 11} {
		if c.Step(); m.Left() != left {
			t.Errorf("behind the step %d wait %d, want %d", n+1, m.Left(), left)
		}
	}
	jump(t, c, api.ModeUSR, code)
	c.Line(true)
	if c.Step(); m.Left() != 11 {
		t.Errorf("an interrupt takes noise: %d wait", m.Left())
	}
}
