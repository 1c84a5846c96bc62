package core_test

import (
	"slices"
	"testing"

	"atlas/api"
	"atlas/core"
	"atlas/cpu"
	"atlas/machine"
	"atlas/rights"
	"atlas/walk"
)

// flat: a bus over the tables as they stand: of its machine the memory, the registers and the tracker are asked, but no TLB.
type flat struct {
	m     *machine.Machine
	stale bool        // was an access, or what was asked for, at a Stale address?
	asked []api.Event // the steps that a machine would make
}

func (b *flat) look(va uint32) {
	c := b.m.Context()
	b.stale = b.stale || c.On && b.m.Stale(c.Asid, va)
}

func (b *flat) Access(a api.Access) api.Answer {
	b.look(a.VA)
	v, f := b.reach(a)
	e := api.Event{Kind: api.EvAccess, Addr: uint64(a.VA)}
	if f != (api.Fault{}) {
		e.Value = 1
		b.tell(a, f)
	}
	b.asked = append(b.asked, e)
	return api.Answer{Value: v, Fault: f}
}

// reach: what is read, the fault.
func (b *flat) reach(a api.Access) (uint32, api.Fault) {
	if a.VA%uint32(a.Bytes) != 0 {
		return 0, api.Fault{Kind: api.FAlign}
	}
	pa, f := walk.Go(b.m, b.m.Context(), a.VA, a.Priv, a.Kind)
	if f != (api.Fault{}) {
		return 0, f
	}
	w, e := b.m.Word(pa &^ 3)
	if e != api.OK {
		return 0, api.Fault{Kind: api.FBus}
	}
	shift, mask := 8*(pa&3), uint32(1<<(8*a.Bytes)-1)
	if a.Kind == api.Store {
		b.m.Poke(pa&^3, w&^(mask<<shift)|a.Value&mask<<shift)
		return 0, api.Fault{}
	}
	return w >> shift & mask, api.Fault{}
}

func (b *flat) tell(a api.Access, f api.Fault) {
	w, _ := rights.Status(f, a.Kind == api.Store)
	status, at := api.Tuple{CRn: 5}, api.Tuple{CRn: 6}
	if a.Kind == api.Fetch {
		status.Op2, at.Op2 = 1, 2
	}
	b.m.Mcr(status, w, false)
	b.m.Mcr(at, a.VA, false)
}

func (b *flat) Mcr(t api.Tuple, v uint32, user bool) api.Errno {
	if t.CRn == 7 && t.CRm == 8 {
		b.look(v &^ 0xFFF)
	}
	b.m.Events()
	e := b.m.Mcr(t, v, user)
	for _, made := range b.m.Events() {
		made.Dirty = 0
		b.asked = append(b.asked, made)
	}
	return e
}

func (b *flat) Mrc(t api.Tuple, user bool) (uint32, api.Errno) { return b.m.Mrc(t, user) }

// model: a core in the chapter's words, over the tables as they stand.
type model struct {
	bus   *flat
	cpu   *cpu.CPU
	timer int
	trail []api.Took // all of it
}

func newModel(m *machine.Machine) *model { return &model{bus: &flat{m: m}, cpu: cpu.New()} }

func (o *model) step() api.Took {
	took, _ := o.cpu.Step(o.bus)
	o.trail = append(o.trail, took)
	if o.timer > 0 {
		o.timer--
		if o.timer == 0 {
			o.cpu.Line(true)
		}
	}
	return took
}

// run: as many steps as there may be, and what the last one came to.
func (o *model) run(n int) (made int, last api.Took) {
	for range n {
		made, last = made+1, o.step()
		if last.Kind != api.TookNone {
			return made, last
		}
	}
	return made, last
}

func (o *model) set(n int) {
	o.timer = n
	o.cpu.Line(false)
}

// expectSame: what a core tells is what the model does.
func (o *model) expectSame(t *testing.T, c *core.Core) {
	t.Helper()
	if c.State() != o.cpu.State() {
		t.Errorf("the state is\n%x, want\n%x", c.State(), o.cpu.State())
	}
	if c.Count() != int64(len(o.trail)) || c.Left() != o.timer || !slices.Equal(c.Trail(), o.trail[max(0, len(o.trail)-64):]) {
		t.Errorf("Count %d, Left %d, want %d, %d; the trail is\n%+v", c.Count(), c.Left(), len(o.trail), o.timer, c.Trail())
	}
	for reg := range api.Registers {
		if got, want := c.Machine().Reg(reg), o.bus.m.Reg(reg); got != want {
			t.Errorf("the register %d is %#x, want %#x", reg, got, want)
		}
	}
}

// expectMemory: the bytes of the machines, and what they know.
func expectMemory(t *testing.T, got, want *machine.Machine) {
	t.Helper()
	for n := range want.Frames() {
		a, _ := got.Frame(n)
		b, _ := want.Frame(n)
		if !slices.Equal(a, b) {
			t.Errorf("the frame %d is another one", n)
		}
	}
	if !slices.Equal(got.Known(), want.Known()) || !slices.Equal(got.Dirty(), want.Dirty()) {
		t.Error("what is known is another thing")
	}
}
