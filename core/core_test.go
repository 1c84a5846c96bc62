package core_test

import (
	"math"
	"slices"
	"testing"

	"atlas/api"
	"atlas/core"
	"atlas/cpu"
)

// TestExamples: of the chapter.
func TestExamples(t *testing.T) {
	m := newMachine(t, small)
	for at, w := range []uint32{0xE3A00005, 0xE5801000, 0xEAFFFFFE} {
		must(t, m.Poke(4*uint64(at), w))
	}
	c := over(t, m)
	if n, k := c.Run(1); n != 1 || k != (api.Took{At: 0, Word: 0xE3A00005}) || c.Count() != 1 {
		t.Errorf("Run = %d, %+v; Count = %d", n, k, c.Count())
	}
	expectStep(t, c, "the store", api.Took{Kind: api.TookData, At: 4, Word: 0xE5801000, VA: 5, Fault: api.Fault{Kind: api.FAlign}, Store: true})
	if m.Reg(api.RegDFAR) != 5 || m.Reg(api.RegDFSR) != 0x801 {
		t.Errorf("DFAR %#x, DFSR %#x", m.Reg(api.RegDFAR), m.Reg(api.RegDFSR))
	}
	must(t, c.Return(8))
	c.Set(0, 0x100)
	c.Set(1, 7)
	expectStep(t, c, "the store again", api.Took{At: 4, Word: 0xE5801000})
	if w := word(t, m, 0x100); w != 7 {
		t.Errorf("the word is %d", w)
	}
	must(t, c.Timer(3))
	if n, k := c.Run(10); n != 10 || k != (api.Took{At: 8, Word: 0xEAFFFFFE}) || c.Left() != 0 {
		t.Errorf("Run = %d, %+v", n, k)
	}
	if e := c.Timer(-1); e != api.ErrArg {
		t.Errorf("Timer(-1) = %d", e)
	}
}

// TestOver: F22.1: a core over a machine, and none over nothing.
func TestOver(t *testing.T) {
	if c, e := core.Over(nil); c != nil || e != api.ErrNil {
		t.Errorf("Over(nil) = %v, %d", c, e)
	}
	m := newMachine(t, small)
	c := over(t, m)
	if c.State() != cpu.New().State() || c.State() != (api.State{CPSR: 0x93}) {
		t.Errorf("the state is %x", c.State())
	}
	if c.Count() != 0 || c.Left() != 0 || len(c.Trail()) != 0 || c.Machine() != m || len(m.Events()) != 0 {
		t.Errorf("Count %d, Left %d, Trail %v", c.Count(), c.Left(), c.Trail())
	}
	jump(t, c, api.ModeSVC, 0x100)
	expectStep(t, c, "the line is off", api.Took{At: 0x100})
}

// TestTwoOverOne: F22.1: two cores over one machine have the machine alone in common.
func TestTwoOverOne(t *testing.T) {
	c := begin(t, api.ModeSVC, false, "str r1, [r0]", "ldr r2, [r0]", "mcr p15, #0, r1, c13, c0, #1", "mrc p15, #0, r3, c13, c0, #1")
	d := over(t, c.Machine())
	jump(t, d, api.ModeSYS, code+4)
	c.Set(0, data)
	d.Set(0, data)
	c.Set(1, 0x1234)
	must(t, d.Timer(9))
	expectDone(t, c, "str r1, [r0]")
	if d.Count() != 0 || d.Left() != 9 || len(d.Trail()) != 0 || d.Reg(1) != 0 || c.Left() != 0 {
		t.Errorf("the other core has Count %d, Left %d, Trail %v, R1 %#x", d.Count(), d.Left(), d.Trail(), d.Reg(1))
	}
	expectDone(t, d, "ldr r2, [r0]")
	c.Step()
	expectDone(t, c, "mcr p15, #0, r1, c13, c0, #1")
	jump(t, d, api.ModeSYS, code+12)
	expectDone(t, d, "mrc p15, #0, r3, c13, c0, #1")
	if d.Reg(2) != 0x1234 || d.Reg(3) != 0x1234 || c.Reg(3) != 0 || c.Count() != 3 || d.Count() != 2 || d.Left() != 7 || c.Machine() != d.Machine() {
		t.Errorf("R2 %#x, R3 %#x, %#x; Count %d, %d", d.Reg(2), d.Reg(3), c.Reg(3), c.Count(), d.Count())
	}
	c.Line(true)
	expectStep(t, d, "the line of the other core", api.Took{At: code + 16})
}

// TestProcessor: F22.5: what is the processor's.
func TestProcessor(t *testing.T) {
	c, p := over(t, newMachine(t, small)), cpu.New()
	good := api.State{PC: 0x100, CPSR: 0x8000001F, SP: [5]uint32{1, 2, 3, 4, 5}, SPSR: [5]uint32{0, 0x10, 0, 0x13, 0}}
	good.Low[3] = 7
	odd, masked, lost := good, good, good
	odd.PC, masked.CPSR, lost.SPSR[0] = 0x102, 0x8000005F, 0x10
	for _, s := range []api.State{good, odd, masked, lost, {}} {
		if got, want := c.Load(s), p.Load(s); got != want || c.State() != p.State() {
			t.Errorf("Load(%x) = %d, want %d; the state is %x", s, got, want, c.State())
		}
	}
	if c.State() != good {
		t.Errorf("Load of what is no state: %x", c.State())
	}
	for _, n := range []int{0, 3, 13, 14, 15, 16, -1, math.MinInt, math.MaxInt} {
		c.Set(n, 0xABCDEF03)
		p.Set(n, 0xABCDEF03)
		if c.Reg(n) != p.Reg(n) || c.State() != p.State() {
			t.Errorf("Set(%d): %#x, want %#x", n, c.Reg(n), p.Reg(n))
		}
	}
	if e := c.Return(4); e != api.ErrReturn {
		t.Errorf("Return in SYS = %d", e)
	}
	s := c.State()
	s.CPSR, s.LR[1], s.SPSR[1] = 0x93, 0x208, 0x10
	must(t, c.Load(s))
	must(t, p.Load(s))
	must(t, c.Return(8))
	must(t, p.Return(8))
	if c.State() != p.State() || c.Reg(15) != 0x200 || c.State().CPSR != 0x10 {
		t.Errorf("Return: %x", c.State())
	}
	c.Line(true)
	expectStep(t, c, "the line", api.Took{Kind: api.TookIRQ, At: 0x200})
	if c.Count() != 1 || len(c.Machine().Events()) != 0 {
		t.Errorf("Count = %d", c.Count())
	}
	must(t, c.Return(4))
	c.Line(false)
	expectStep(t, c, "the line off", api.Took{At: 0x200})
}

// TestRun: F22.3: none, one, many, and no more than till something comes.
func TestRun(t *testing.T) {
	lines := []string{"mov r0, #1", "mov r1, #2", "svc #5", "wfi"}
	for _, n := range []int{0, -1, math.MinInt} {
		c := begin(t, api.ModeUSR, false, lines...)
		must(t, c.Timer(2))
		ahead := c.State()
		if made, took := c.Run(n); made != 0 || took != (api.Took{}) {
			t.Errorf("Run(%d) = %d, %+v", n, made, took)
		}
		if c.State() != ahead || c.Count() != 0 || c.Left() != 2 || len(c.Trail()) != 0 || len(c.Machine().Events()) != 0 {
			t.Errorf("Run(%d) was a step", n)
		}
	}
	done := []api.Took{
		{At: code, Word: wordOf(t, 0, "mov r0, #1")},
		{At: code + 4, Word: wordOf(t, 0, "mov r1, #2")},
		{Kind: api.TookSVC, At: code + 8, Word: wordOf(t, 0, "svc #5")},
	}
	for n, want := range map[int]int{1: 1, 2: 2, 3: 3, 4: 3, math.MaxInt: 3} {
		c := begin(t, api.ModeUSR, false, lines...)
		if made, took := c.Run(n); made != want || took != done[want-1] || c.Count() != int64(want) || !slices.Equal(c.Trail(), done[:want]) {
			t.Errorf("Run(%d) = %d, %+v; Count %d, Trail %+v", n, made, took, c.Count(), c.Trail())
		}
	}
}

// TestRunStops: F22.3: by each kind of what a step may come to.
func TestRunStops(t *testing.T) {
	for line, kind := range map[string]int{
		"svc #1": api.TookSVC, "wfi": api.TookWait, "bkpt #1": api.TookPrefetch, "ldr r0, [r0, #1]": api.TookData, "mrs r0, spsr": api.TookUndef,
	} {
		c := begin(t, api.ModeUSR, false, "nop", line)
		if made, took := c.Run(9); made != 2 || took.Kind != kind || took.At != code+4 || c.Count() != 2 {
			t.Errorf("%s: Run = %d, %+v", line, made, took)
		}
	}
	c := begin(t, api.ModeUSR, false, "nop", "mov pc, #0x40000000")
	if made, took := c.Run(9); made != 3 || took != (api.Took{Kind: api.TookPrefetch, At: 0x40000000, VA: 0x40000000, Fault: api.Fault{Kind: api.FBus}}) {
		t.Errorf("beyond the memory: Run = %d, %+v", made, took)
	}
	c = begin(t, api.ModeUSR, false, "nop", "nop", "nop")
	must(t, c.Timer(2))
	if made, took := c.Run(9); made != 3 || took != (api.Took{Kind: api.TookIRQ, At: code + 8}) {
		t.Errorf("the timer: Run = %d, %+v", made, took)
	}
	c = begin(t, api.ModeUSR, false, "wfi", "nop")
	for range 3 {
		if made, took := c.Run(9); made != 1 || took.Kind != api.TookWait || took.At != code {
			t.Errorf("it waits: Run = %d, %+v", made, took)
		}
	}
}
