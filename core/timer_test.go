package core_test

import (
	"math"
	"slices"
	"testing"

	"atlas/api"
	"atlas/core"
)

// idle: a core that does nothing but to branch to its own instruction.
func idle(t *testing.T, mode uint32) *core.Core {
	t.Helper()
	return begin(t, mode, false, "b 0x10000")
}

// kinds: what so many steps come to.
func kinds(c *core.Core, n int) (l []int) {
	for range n {
		l = append(l, c.Step().Kind)
	}
	return l
}

// TestTimer: F22.4: below 0, and as many steps as it says.
func TestTimer(t *testing.T) {
	for _, n := range []int{-1, -2, math.MinInt} {
		c := idle(t, api.ModeUSR)
		must(t, c.Timer(3))
		c.Line(true)
		if e := c.Timer(n); e != api.ErrArg || c.Left() != 3 || c.Step().Kind != api.TookIRQ {
			t.Errorf("Timer(%d) = %d, Left = %d, or the line is off", n, e, c.Left())
		}
	}
	for _, n := range []int{1, 2, 3, 10} {
		c := idle(t, api.ModeSYS)
		must(t, c.Timer(n))
		for left := n; left > 0; left-- {
			if c.Left() != left {
				t.Errorf("Timer(%d): Left = %d, want %d", n, c.Left(), left)
			}
			if k := c.Step(); k.Kind != api.TookNone {
				t.Errorf("Timer(%d): ahead of it %+v", n, k)
			}
		}
		if k := c.Step(); k != (api.Took{Kind: api.TookIRQ, At: code}) || c.Left() != 0 {
			t.Errorf("Timer(%d): behind it %+v", n, k)
		}
	}
	c := idle(t, api.ModeSYS)
	must(t, c.Timer(math.MaxInt))
	if l := kinds(c, 5); slices.Max(l) != api.TookNone || c.Left() != math.MaxInt-5 {
		t.Errorf("%v, Left = %d", l, c.Left())
	}
}

// TestTimerOff: F22.2, F22.4: at 0 it is off, and never turns the line; Timer turns the line off, whatever it was.
func TestTimerOff(t *testing.T) {
	c := idle(t, api.ModeSYS)
	if l := kinds(c, 9); slices.Max(l) != api.TookNone || c.Left() != 0 {
		t.Errorf("without a timer: %v", l)
	}
	must(t, c.Timer(0))
	if l := kinds(c, 9); slices.Max(l) != api.TookNone || c.Left() != 0 {
		t.Errorf("Timer(0): %v", l)
	}
	must(t, c.Timer(2))
	c.Step()
	must(t, c.Timer(0))
	if l := kinds(c, 9); slices.Max(l) != api.TookNone || c.Left() != 0 {
		t.Errorf("put off: %v", l)
	}
	for _, n := range []int{0, 5} {
		c.Line(true)
		must(t, c.Timer(n))
		if k := c.Step(); k.Kind != api.TookNone {
			t.Errorf("Timer(%d) leaves the line: %+v", n, k)
		}
	}
}

// TestTimerAnew: F22.4: set anew while it runs, it counts from then on.
func TestTimerAnew(t *testing.T) {
	c := idle(t, api.ModeSYS)
	must(t, c.Timer(3))
	c.Run(2)
	must(t, c.Timer(4))
	if l := kinds(c, 5); !slices.Equal(l, []int{0, 0, 0, 0, api.TookIRQ}) {
		t.Errorf("longer: %v", l)
	}
	must(t, c.Return(4))
	must(t, c.Timer(9))
	c.Step()
	must(t, c.Timer(1))
	if l := kinds(c, 2); !slices.Equal(l, []int{0, api.TookIRQ}) {
		t.Errorf("shorter: %v", l)
	}
}

// TestTimerMasked: P2205: the line stays on till interrupts are not masked, and beyond.
func TestTimerMasked(t *testing.T) {
	c := idle(t, api.ModeSYS|0x80)
	must(t, c.Timer(2))
	if l := kinds(c, 6); slices.Max(l) != api.TookNone || c.Left() != 0 {
		t.Errorf("masked: %v", l)
	}
	jump(t, c, api.ModeUSR, code)
	expectStep(t, c, "not masked", api.Took{Kind: api.TookIRQ, At: code})
	must(t, c.Return(4))
	expectStep(t, c, "the line is still on", api.Took{Kind: api.TookIRQ, At: code})
	must(t, c.Return(4))
	c.Line(false)
	if l := kinds(c, 3); slices.Max(l) != api.TookNone {
		t.Errorf("the line is off: %v", l)
	}
	c = begin(t, api.ModeSVC|0x80, false, "nop", "nop", "nop", "msr cpsr_c, #0x13", "nop")
	must(t, c.Timer(2))
	expectDone(t, c, "nop", "nop", "nop", "msr cpsr_c, #0x13")
	expectStep(t, c, "unmasked by the program", api.Took{Kind: api.TookIRQ, At: code + 16})
}

// TestTimerBeside: F22.2: a timer goes on with every step, whatever it comes to, and beside a line that is asked for.
func TestTimerBeside(t *testing.T) {
	c := idle(t, api.ModeUSR)
	must(t, c.Timer(4))
	c.Line(true)
	if l := kinds(c, 1); l[0] != api.TookIRQ || c.Left() != 3 {
		t.Errorf("an interrupt is a step: %v, Left = %d", l, c.Left())
	}
	must(t, c.Return(4))
	c.Line(false)
	if l := kinds(c, 4); !slices.Equal(l, []int{0, 0, 0, api.TookIRQ}) {
		t.Errorf("the line off leaves the timer: %v", l)
	}
	c = begin(t, api.ModeUSR, false, "wfi", "nop")
	must(t, c.Timer(3))
	if l := kinds(c, 4); !slices.Equal(l, []int{api.TookWait, api.TookWait, api.TookWait, api.TookIRQ}) {
		t.Errorf("it waits for the timer: %v", l)
	}
	c = begin(t, api.ModeUSR|0x80, false, "wfi", "nop")
	must(t, c.Timer(2))
	if l := kinds(c, 4); !slices.Equal(l, []int{api.TookWait, api.TookWait, 0, 0}) || c.Reg(15) != code+8 {
		t.Errorf("it waits, masked, for the timer: %v", l)
	}
	c = begin(t, api.ModeUSR, false, "svc #0", "nop")
	must(t, c.Timer(1))
	if l := kinds(c, 2); !slices.Equal(l, []int{api.TookSVC, 0}) {
		t.Errorf("it runs out in a call: %v", l)
	}
	must(t, c.Return(4))
	expectStep(t, c, "behind the call", api.Took{Kind: api.TookIRQ, At: code})
}

// TestCount: F22.2: each step counts, whatever it comes to, and nothing else does.
func TestCount(t *testing.T) {
	c := begin(t, api.ModeUSR, false, "nop", "svc #1", "ldr r0, [r0, #1]", "mrs r0, spsr", "wfi")
	c.Run(9)
	must(t, c.Return(0))
	c.Run(9)
	must(t, c.Return(4))
	c.Run(0)
	if c.Count() != 3 {
		t.Errorf("behind a call and an abort: %d", c.Count())
	}
	c.Run(9)
	must(t, c.Return(0))
	c.Run(9)
	c.Run(9)
	if c.Count() != 6 {
		t.Errorf("behind what is undefined, and two waits: %d", c.Count())
	}
	c.Line(true)
	c.Run(9)
	jump(t, c, api.ModeUSR|0x80, 0x40000000)
	c.Run(9)
	if c.Count() != 8 {
		t.Errorf("behind an interrupt and a fetch that was barred: %d", c.Count())
	}
	c.Load(api.State{})
	c.Set(0, 1)
	c.Timer(4)
	c.Timer(-4)
	c.Trail()
	if c.Count() != 8 || len(c.Trail()) != 8 {
		t.Errorf("behind what is no step: %d", c.Count())
	}
	var l []int
	for _, took := range c.Trail() {
		l = append(l, took.Kind)
	}
	if want := []int{0, api.TookSVC, api.TookData, api.TookUndef, api.TookWait, api.TookWait, api.TookIRQ, api.TookPrefetch}; !slices.Equal(l, want) {
		t.Errorf("the trail is %v, want %v", l, want)
	}
}

// TestTrail: F22.5: the last steps, the oldest first, as many as MaxTrail.
func TestTrail(t *testing.T) {
	for _, n := range []int{0, 1, 2, 63, 64, 65, 66, 127, 128, 129, 200} {
		c := over(t, newMachine(t, small)) // words that are 0, and are done wherever they stand
		var all []api.Took
		for range n {
			all = append(all, c.Step())
		}
		got := c.Trail()
		if want := all[max(0, n-64):]; !slices.Equal(got, want) {
			t.Errorf("%d steps: the trail is %+v, want %+v", n, got, want)
		}
		if c.Count() != int64(n) {
			t.Errorf("%d steps: Count = %d", n, c.Count())
		}
	}
}

// TestTrailGiven: rule 4: what Trail hands out is the caller's.
func TestTrailGiven(t *testing.T) {
	for _, n := range []int{1, 5, 64, 70} {
		c := over(t, newMachine(t, small))
		c.Run(n)
		want := c.Trail()
		got := c.Trail()
		for i := range got[:cap(got)] {
			got[:cap(got)][i] = api.Took{Kind: 9, At: 9}
		}
		if now := c.Trail(); !slices.Equal(now, want) {
			t.Errorf("%d steps: the trail is %+v, want %+v", n, now, want)
		}
		c.Run(3)
		if got[0] != (api.Took{Kind: 9, At: 9}) || want[0].At == 0 && n > 64 {
			t.Errorf("%d steps: what was handed out has changed", n)
		}
	}
}
