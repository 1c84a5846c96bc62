package core_test

import (
	"slices"
	"testing"

	"atlas/api"
	"atlas/asm"
	"atlas/core"
	"atlas/isa"
	"atlas/machine"
)

// Where the tables, the program and the data of these tests stand: the root of 16 KiB, two tables, in a memory of 1 MiB.
const (
	root   = 0x4000
	tableA = 0xC000
	tableB = 0xC400
	code   = 0x10000
	data   = 0x20000
)

// The tuples of the coprocessor that the tests write themselves.
var (
	sctlr   = api.Tuple{CRn: 1}
	ttbr0   = api.Tuple{CRn: 2}
	ttbr1   = api.Tuple{CRn: 2, Op2: 1}
	ttbcr   = api.Tuple{CRn: 2, Op2: 2}
	dacr    = api.Tuple{CRn: 3}
	context = api.Tuple{CRn: 13, Op2: 1}
	dropAll = api.Tuple{CRn: 8, CRm: 7}
)

// The bits of SCTLR.
const (
	on  = 1
	afe = 1 << 29
)

var small = api.Config{Frames: 256, I: 2, D: 2, Main: 2}

// tables: what the pages and sections of the tests are; all at the data's page, or at the memory's beginning.
var tables = map[uint64]uint32{
	root + 4*0:  0x00000C22,             // whoever, whatever; domain 1, of clients
	root + 4*1:  0x00000422,             // privileged alone
	root + 4*2:  0x00000822,             // users read (with AFE: the access flag is off)
	root + 4*3:  0x00000C32,             // no fetches
	root + 4*4:  0x00008422,             // privileged read
	root + 4*5:  0x00000C42,             // domain 2, barred
	root + 4*7:  tableA + 0x21,          // 6 is nothing
	root + 4*8:  0x10000021,             // a table beyond the memory
	root + 4*9:  0x00100C22,             // beyond the memory
	root + 4*10: 0x00000062,             // nobody; but domain 3, of managers
	root + 4*11: tableB + 0x41,          // domain 2
	tableA + 4:  data + 0x32,            // whoever, whatever
	tableA + 8:  data + 0x12,            // privileged alone
	tableA + 12: data + 0x02,            // nobody
	tableA + 16: 0x00100032,             // beyond the memory
	tableA + 20: data + 0x33,            // no fetches
	tableA + 24: data + 0x22,            // users read (with AFE: the access flag is off)
	tableA + 28: data + 0x1000 + 0x0832, // the next page, not global
	tableB:      data + 0x32,
}

func must(t *testing.T, e api.Errno) {
	t.Helper()
	if e != api.OK {
		t.Fatal(e)
	}
}

func newMachine(t *testing.T, c api.Config) *machine.Machine {
	t.Helper()
	m, e := machine.New(c)
	must(t, e)
	return m
}

func over(t *testing.T, m *machine.Machine) *core.Core {
	t.Helper()
	c, e := core.Over(m)
	must(t, e)
	return c
}

// turnOn: the tables are in the memory, and the context is on by them, with those bits of SCTLR beside.
func turnOn(t *testing.T, m *machine.Machine, bits uint32) {
	t.Helper()
	for pa, w := range tables {
		must(t, m.Poke(pa, w))
	}
	must(t, m.Mcr(ttbr0, root, false))
	must(t, m.Mcr(ttbr1, 0x10000000, false))
	must(t, m.Mcr(ttbcr, 1, false))
	must(t, m.Mcr(dacr, 1<<2|3<<6, false))
	must(t, m.Mcr(sctlr, on|bits, false))
}

// place: lines of instructions, from a physical address on, which is theirs too.
func place(t *testing.T, m *machine.Machine, at uint32, lines ...string) {
	t.Helper()
	for _, line := range lines {
		must(t, m.Poke(uint64(at), wordOf(t, at, line)))
		at += 4
	}
}

func wordOf(t *testing.T, at uint32, line string) uint32 {
	t.Helper()
	i, err := asm.Line(line, at)
	if err != nil {
		t.Fatalf("%s: %v", line, err)
	}
	w, e := isa.Encode(i)
	must(t, e)
	return w
}

// begin: a core whose program, those lines, stands at code; in a mode, interrupts not masked; the context is on, or not.
func begin(t *testing.T, mode uint32, isOn bool, lines ...string) *core.Core {
	t.Helper()
	m := newMachine(t, small)
	place(t, m, code, lines...)
	if isOn {
		turnOn(t, m, 0)
	}
	c := over(t, m)
	jump(t, c, mode, code)
	m.Events()
	return c
}

// jump: the mode, and the address of the next instruction; the flags clear, interrupts not masked.
func jump(t *testing.T, c *core.Core, mode, at uint32) {
	t.Helper()
	s := c.State()
	s.CPSR, s.PC = mode, at
	must(t, c.Load(s))
}

// expectStep: what the next step comes to.
func expectStep(t *testing.T, c *core.Core, text string, want api.Took) {
	t.Helper()
	if got := c.Step(); got != want {
		t.Errorf("%s: Step = %+v, want %+v", text, got, want)
	}
}

// expectDone: the next instruction, those lines from the program's beginning on, is done.
func expectDone(t *testing.T, c *core.Core, lines ...string) {
	t.Helper()
	for _, line := range lines {
		at := c.Reg(15)
		expectStep(t, c, line, api.Took{At: at, Word: wordOf(t, at, line)})
	}
}

// expectEvents: the steps of the machine since they were asked last; what is dirty is not looked at.
func expectEvents(t *testing.T, c *core.Core, text string, want ...api.Event) {
	t.Helper()
	got := c.Machine().Events()
	for n := range got {
		got[n].Dirty = 0
	}
	if !slices.Equal(got, want) {
		t.Errorf("%s: the events are %+v, want %+v", text, got, want)
	}
}

// touched: the event of an access without a fault.
func touched(va uint32) api.Event { return api.Event{Kind: api.EvAccess, Addr: uint64(va)} }

// barred: the event of an access with a fault.
func barred(va uint32) api.Event { return api.Event{Kind: api.EvAccess, Addr: uint64(va), Value: 1} }

// word: of the memory.
func word(t *testing.T, m *machine.Machine, pa uint64) uint32 {
	t.Helper()
	w, e := m.Word(pa)
	must(t, e)
	return w
}
