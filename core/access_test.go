package core_test

import (
	"testing"

	"atlas/api"
	"atlas/core"
	"atlas/rights"
)

const mib = 1 << 20

// entered: the state in an abort's handler, with that way back.
func entered(s api.State, back, vector uint32) api.State {
	s.SPSR[2], s.LR[2] = s.CPSR, back
	s.CPSR, s.PC = s.CPSR&0xF0000080|0x80|api.ModeABT, vector
	return s
}

// TestAccesses: F22.2: fetches, loads and stores go through the machine, by the mode's privilege.
func TestAccesses(t *testing.T) {
	for _, mode := range []uint32{api.ModeUSR, api.ModeIRQ, api.ModeSVC, api.ModeABT, api.ModeUND, api.ModeSYS} {
		for _, isOn := range []bool{false, true} {
			lines := []string{"ldr r1, [r0]", "ldrb r2, [r0, #1]", "ldrsh r3, [r0, #2]", "str r1, [r0, #4]!", "strb r4, [r0, #5]", "strh r4, [r0], #2", "ldmia r5!, {r6-r8}", "stmia r5, {r6, r8}"}
			c := begin(t, mode, isOn, lines...)
			at := uint32(data)
			if isOn {
				at = 7*mib + 0x1000
			}
			for n, w := range []uint32{0x8182F384, 9, 0x55667788} {
				must(t, c.Machine().Poke(data+4*uint64(n), w))
			}
			c.Machine().Events()
			c.Set(0, at)
			c.Set(4, 0xA1A2A3A4)
			c.Set(5, at)
			expectDone(t, c, lines...)
			for n, want := range []uint32{at + 6, 0x8182F384, 0xF3, 0xFFFF8182, 0xA1A2A3A4, at + 12, 0x8182F384, 0x8182A3A4, 0x5566A488} {
				if c.Reg(n) != want {
					t.Errorf("mode %#x, on %v: R%d is %#x, want %#x", mode, isOn, n, c.Reg(n), want)
				}
			}
			for n, want := range []uint32{0x8182F384, 0x8182A3A4, 0x5566A488, 0x8182F384, 0x5566A488, 0} {
				if w := word(t, c.Machine(), data+4*uint64(n)); w != want {
					t.Errorf("mode %#x, on %v: the word %d is %#x, want %#x", mode, isOn, n, w, want)
				}
			}
			expectEvents(t, c, "the accesses",
				touched(code), touched(at), touched(code+4), touched(at+1), touched(code+8), touched(at+2), touched(code+12), touched(at+4),
				touched(code+16), touched(at+9), touched(code+20), touched(at+4), touched(code+24), touched(at), touched(at+4), touched(at+8),
				touched(code+28), touched(at+12), touched(at+16))
		}
	}
}

// TestOff: where the context is off each address stands for itself, up to the memory's end.
func TestOff(t *testing.T) {
	c := begin(t, api.ModeUSR, false, "ldr r1, [r0]", "ldr r2, [r0, #4]")
	must(t, c.Machine().Poke(mib-4, 77))
	c.Set(0, mib-4)
	expectDone(t, c, "ldr r1, [r0]")
	expectStep(t, c, "beyond", api.Took{Kind: api.TookData, At: code + 4, Word: wordOf(t, 0, "ldr r2, [r0, #4]"), VA: mib, Fault: api.Fault{Kind: api.FBus}})
	if c.Reg(1) != 77 {
		t.Errorf("R1 is %#x", c.Reg(1))
	}
}

// way: an address, and what comes of it to users and to others: of fetches, loads and stores.
type way struct {
	text       string
	va         uint32
	afe        bool
	user, priv [3]api.Fault
}

func all(f api.Fault) [3]api.Fault { return [3]api.Fault{f, f, f} }

// but: no fault but of the stores, or of the fetches.
func stores(f api.Fault) [3]api.Fault  { return [3]api.Fault{2: f} }
func fetches(f api.Fault) [3]api.Fault { return [3]api.Fault{f} }

// ways: through the tables of these tests, to each kind of fault.
func ways() []way {
	var none [3]api.Fault
	perm1 := api.Fault{Kind: api.FPerm, Level: 1, Domain: 1}
	perm2 := api.Fault{Kind: api.FPerm, Level: 2, Domain: 1}
	both := func(text string, va uint32, f api.Fault) way { return way{text, va, false, all(f), all(f)} }
	return []way{
		{"whoever", data, false, none, none},
		{"privileged", 1*mib + data, false, all(perm1), none},
		{"users read", 2*mib + data, false, stores(perm1), none},
		{"no fetches", 3*mib + data, false, fetches(perm1), fetches(perm1)},
		{"privileged read", 4*mib + data, false, all(perm1), stores(perm1)},
		{"managers", 10*mib + data, false, none, none},
		{"a page", 7*mib + 0x1000, false, none, none},
		{"a privileged page", 7*mib + 0x2000, false, all(perm2), none},
		{"a page without fetches", 7*mib + 0x5000, false, fetches(perm2), fetches(perm2)},
		{"a page that users read", 7*mib + 0x6000, false, stores(perm2), none},
		both("nobody's page", 7*mib+0x3000, perm2),
		both("a barred section", 5*mib+data, api.Fault{Kind: api.FDomain, Level: 1, Domain: 2}),
		both("a barred page", 11*mib, api.Fault{Kind: api.FDomain, Level: 2, Domain: 2}),
		both("nothing", 6*mib, api.Fault{Kind: api.FTrans1}),
		both("no page", 7*mib, api.Fault{Kind: api.FTrans2, Domain: 1}),
		both("no root", 0x80000000, api.Fault{Kind: api.FWalk1}),
		both("no table", 8*mib, api.Fault{Kind: api.FWalk2, Domain: 1}),
		both("a section beyond", 9*mib, api.Fault{Kind: api.FBus}),
		both("a page beyond", 7*mib+0x4000, api.Fault{Kind: api.FBus}),
		{"its flag is off", 2*mib + data, true, all(api.Fault{Kind: api.FAccess, Level: 1, Domain: 1}), all(api.Fault{Kind: api.FAccess, Level: 1, Domain: 1})},
		{"the page's flag is off", 7*mib + 0x6000, true, all(api.Fault{Kind: api.FAccess, Level: 2, Domain: 1}), all(api.Fault{Kind: api.FAccess, Level: 2, Domain: 1})},
	}
}

// along: a core in a mode, its tables on, that has those lines.
func (w way) along(t *testing.T, mode uint32, lines ...string) *core.Core {
	t.Helper()
	c := begin(t, mode, false, lines...)
	must(t, c.Machine().Poke(data, 0xE3A01007)) // mov r1, #7, if it is fetched
	if w.afe {
		turnOn(t, c.Machine(), afe)
	} else {
		turnOn(t, c.Machine(), 0)
	}
	c.Machine().Events()
	return c
}

// expectTold: the registers in which a fault is told; nothing is told in the others.
func expectTold(t *testing.T, c *core.Core, text string, f api.Fault, va uint32, store, fetch bool) {
	t.Helper()
	m := c.Machine()
	w, e := rights.Status(f, store)
	must(t, e)
	want := [4]uint32{0, 0, w, va}
	if fetch {
		want = [4]uint32{w & 0x140F, va, 0, 0}
	}
	if got := [4]uint32{m.Reg(api.RegIFSR), m.Reg(api.RegIFAR), m.Reg(api.RegDFSR), m.Reg(api.RegDFAR)}; got != want {
		t.Errorf("%s: IFSR, IFAR, DFSR, DFAR are %x, want %x", text, got, want)
	}
}

// TestDataAborts: P2202: with each kind of fault, to loads and stores, of users and of others.
func TestDataAborts(t *testing.T) {
	for _, w := range ways() {
		for kind, line := range map[int]string{1: "ldr r1, [r0], #4", 2: "str r1, [r0, #0]!"} {
			for mode, faults := range map[uint32][3]api.Fault{api.ModeUSR: w.user, api.ModeSVC: w.priv, api.ModeSYS: w.priv} {
				c := w.along(t, mode, line)
				c.Set(0, w.va)
				c.Set(1, 0x1234)
				ahead, f := c.State(), faults[kind]
				if f == (api.Fault{}) {
					expectDone(t, c, line)
					if kind == 1 && c.Reg(1) != 0xE3A01007 || kind == 2 && word(t, c.Machine(), data) != 0x1234 {
						t.Errorf("%s, %s: R1 is %#x, the word %#x", w.text, line, c.Reg(1), word(t, c.Machine(), data))
					}
					expectEvents(t, c, w.text, touched(code), touched(w.va))
					continue
				}
				expectStep(t, c, w.text, api.Took{Kind: api.TookData, At: code, Word: wordOf(t, 0, line), VA: w.va, Fault: f, Store: kind == 2})
				expectTold(t, c, w.text, f, w.va, kind == 2, false)
				expectEvents(t, c, w.text, touched(code), barred(w.va))
				if c.State() != entered(ahead, code+8, 0x10) || word(t, c.Machine(), data) != 0xE3A01007 || c.Count() != 1 {
					t.Errorf("%s, %s: the state is %x", w.text, line, c.State())
				}
			}
		}
	}
}

// TestPrefetchAborts: P2202: likewise of fetches.
func TestPrefetchAborts(t *testing.T) {
	for _, w := range ways() {
		for mode, faults := range map[uint32][3]api.Fault{api.ModeUSR: w.user, api.ModeSVC: w.priv, api.ModeSYS: w.priv} {
			c := w.along(t, mode)
			jump(t, c, mode, w.va)
			ahead, f := c.State(), faults[0]
			if f == (api.Fault{}) {
				expectDone(t, c, "mov r1, #7")
				expectEvents(t, c, w.text, touched(w.va))
				continue
			}
			expectStep(t, c, w.text, api.Took{Kind: api.TookPrefetch, At: w.va, VA: w.va, Fault: f})
			expectTold(t, c, w.text, f, w.va, false, true)
			expectEvents(t, c, w.text, barred(w.va))
			if c.State() != entered(ahead, w.va+4, 0x0C) || c.Count() != 1 {
				t.Errorf("%s: the state is %x", w.text, c.State())
			}
		}
	}
}

// TestBreakpoint: a prefetch abort without a fault is told in no register.
func TestBreakpoint(t *testing.T) {
	c := begin(t, api.ModeUSR, true, "bkpt #9")
	expectStep(t, c, "bkpt", api.Took{Kind: api.TookPrefetch, At: code, Word: wordOf(t, 0, "bkpt #9"), VA: code})
	m := c.Machine()
	if m.Reg(api.RegIFSR) != 0 || m.Reg(api.RegIFAR) != 0 || m.Reg(api.RegDFSR) != 0 || m.Reg(api.RegDFAR) != 0 {
		t.Error("a breakpoint is told as a fault")
	}
}

// TestAlign: P2202: of halves and words; bytes stand anywhere.
func TestAlign(t *testing.T) {
	for line, off := range map[string]uint32{"ldr r1, [r0]": 2, "str r1, [r0]": 3, "ldrh r1, [r0]": 1, "strh r1, [r0]": 3, "ldrsh r1, [r0]": 1, "ldmia r0, {r1}": 1, "stmia r0, {r1}": 2} {
		for _, isOn := range []bool{false, true} {
			c := begin(t, api.ModeUSR, isOn, line)
			c.Set(0, data+off)
			f, store := api.Fault{Kind: api.FAlign}, line[:2] == "st"
			expectStep(t, c, line, api.Took{Kind: api.TookData, At: code, Word: wordOf(t, 0, line), VA: data + off, Fault: f, Store: store})
			expectTold(t, c, line, f, data+off, store, false)
		}
	}
	c := begin(t, api.ModeUSR, true, "ldrb r1, [r0]", "strb r1, [r0]", "ldrsb r1, [r0]")
	c.Set(0, data+3)
	expectDone(t, c, "ldrb r1, [r0]", "strb r1, [r0]", "ldrsb r1, [r0]")
}

// TestManyAborted: I20.4 on a machine: what was stored ahead of the fault stays, no register has changed, and once the fault is answered it is done again.
func TestManyAborted(t *testing.T) {
	c := begin(t, api.ModeUSR, true, "stmia r0!, {r1-r4}")
	at := uint32(7*mib + 0x1FF8)
	for n, v := range []uint32{at, 11, 12, 13, 14} {
		c.Set(n, v)
	}
	ahead := c.State()
	f := api.Fault{Kind: api.FPerm, Level: 2, Domain: 1}
	expectStep(t, c, "stm", api.Took{Kind: api.TookData, At: code, Word: wordOf(t, 0, "stmia r0!, {r1-r4}"), VA: at + 8, Fault: f, Store: true})
	expectTold(t, c, "stm", f, at+8, true, false)
	expectEvents(t, c, "stm", touched(code), touched(at), touched(at+4), barred(at+8))
	m := c.Machine()
	if c.State() != entered(ahead, code+8, 0x10) || word(t, m, data+0xFF8) != 11 || word(t, m, data+0xFFC) != 12 || word(t, m, data) != 0 {
		t.Errorf("the state is %x", c.State())
	}
	must(t, m.Poke(tableA+8, data+0x32))
	must(t, m.Mcr(dropAll, 0, false))
	must(t, c.Return(8))
	expectDone(t, c, "stmia r0!, {r1-r4}")
	if c.Reg(0) != at+16 || word(t, m, data) != 13 || word(t, m, data+4) != 14 {
		t.Errorf("done again: R0 is %#x", c.Reg(0))
	}
}
