package cpu_test

import (
	"slices"
	"strings"
	"testing"

	"atlas/api"
	"atlas/cpu"
	"atlas/isa"
)

// at: where the instruction of a test stands, where the test says nothing else.
const at = 0x8000

// always: the condition that holds always.
const always = 14

// modes: all there are.
var modes = []uint32{api.ModeUSR, api.ModeIRQ, api.ModeSVC, api.ModeABT, api.ModeUND, api.ModeSYS}

// banks: of the modes.
var banks = map[uint32]int{api.ModeUSR: 0, api.ModeSYS: 0, api.ModeSVC: 1, api.ModeABT: 2, api.ModeUND: 3, api.ModeIRQ: 4}

// asked: what a bus was asked: an access, or, by Call, for the coprocessor.
type asked struct {
	Access api.Access
	Call   string
	Tuple  api.Tuple
	Value  uint32
	User   bool
}

// bus: answers by turns, of which the first, 0, is the fetch, and keeps what it was asked.
type bus struct {
	values  []uint32 // of fetches and loads; 0 behind the last one
	faults  map[int]api.Fault
	refusal api.Errno // of the coprocessor
	asked   []asked
}

func (b *bus) turn(a asked) (v uint32, f api.Fault) {
	n := len(b.asked)
	b.asked = append(b.asked, a)
	if n < len(b.values) {
		v = b.values[n]
	}
	return v, b.faults[n]
}

// Access: a value has no more bytes than are asked for; one beside a fault, or of a store, counts for nothing.
func (b *bus) Access(a api.Access) api.Answer {
	v, f := b.turn(asked{Access: a})
	return api.Answer{Value: v & uint32(1<<(8*a.Bytes)-1), Fault: f}
}

func (b *bus) Mcr(tuple api.Tuple, v uint32, user bool) api.Errno {
	b.turn(asked{Call: "mcr", Tuple: tuple, Value: v, User: user})
	return b.refusal
}

func (b *bus) Mrc(tuple api.Tuple, user bool) (uint32, api.Errno) {
	v, _ := b.turn(asked{Call: "mrc", Tuple: tuple, User: user})
	return v, b.refusal // a word beside an error counts for nothing
}

// fetch: what is asked first.
func fetch(s api.State) asked {
	return asked{Access: api.Access{Kind: api.Fetch, VA: s.PC, Bytes: 4, Priv: !isUser(s)}}
}

func isUser(s api.State) bool { return s.CPSR&31 == api.ModeUSR }

// full: a state in that mode, interrupts not masked, no two of whose registers are alike.
func full(mode uint32) api.State {
	s := api.State{PC: at, CPSR: mode}
	for n := range s.Low {
		s.Low[n] = 0x01010101 * uint32(n+1)
	}
	for bank := range s.SP {
		s.SP[bank] = 0xA0000000 + uint32(bank)<<8
		s.LR[bank] = 0xB0000002 + uint32(bank)<<8
	}
	s.SPSR = [5]uint32{0, 0x80000010, 0x40000093, 0x2000001F, 0x10000092}
	return s
}

// put: a register of the state's mode.
func put(s *api.State, n int, v uint32) {
	bank := banks[s.CPSR&31]
	switch n {
	case 13:
		s.SP[bank] = v
	case 14:
		s.LR[bank] = v
	case 15:
		s.PC = v &^ 3
	default:
		s.Low[n] = v
	}
}

// read: a register of the state's mode, as the instruction at its PC reads it.
func read(s api.State, n int) uint32 {
	bank := banks[s.CPSR&31]
	switch n {
	case 13:
		return s.SP[bank]
	case 14:
		return s.LR[bank]
	case 15:
		return s.PC + 8
	}
	return s.Low[n]
}

// flags: those named, as bits.
func flags(names string) (w uint32) {
	for n, name := range "VCZN" {
		if strings.ContainsRune(names, name) {
			w |= 1 << (28 + n)
		}
	}
	return w
}

// wordOf: the word that says an instruction, whose condition holds always.
func wordOf(t *testing.T, i api.Ins) uint32 {
	t.Helper()
	i.Cond = always
	w, e := isa.Encode(i)
	if e != api.OK {
		t.Fatalf("no word says %+v", i)
	}
	return w
}

// loaded: a processor with that state.
func loaded(t *testing.T, s api.State) *cpu.CPU {
	t.Helper()
	c := cpu.New()
	if e := c.Load(s); e != api.OK {
		t.Fatalf("Load(%x) = %d", s, e)
	}
	return c
}

// expect: a step from the state ahead comes to took, and leaves the state behind.
func expect(t *testing.T, text string, ahead api.State, line bool, b *bus, took api.Took, behind api.State) {
	t.Helper()
	c := loaded(t, ahead)
	c.Line(line)
	if k, e := c.Step(b); k != took || e != api.OK {
		t.Errorf("%s: Step = %+v, %d, want %+v", text, k, e, took)
	}
	if s := c.State(); s != behind {
		t.Errorf("%s: the state is\n%x, want\n%x", text, s, behind)
	}
}

// expectDone: the instruction is done: the PC is behind it, and what else changes is told.
func expectDone(t *testing.T, text string, ahead api.State, b *bus, change func(s *api.State)) {
	t.Helper()
	behind := ahead
	behind.PC += 4
	change(&behind)
	expect(t, text, ahead, false, b, api.Took{At: ahead.PC, Word: b.values[0]}, behind)
}

// expectUndefined: nothing happens but the exception.
func expectUndefined(t *testing.T, text string, ahead api.State, b *bus) {
	t.Helper()
	took := api.Took{Kind: api.TookUndef, At: ahead.PC, Word: b.values[0]}
	expect(t, text, ahead, false, b, took, entered(ahead, api.ModeUND, 3, ahead.PC+4, 4))
}

// expectAsked: behind the fetch, just that.
func expectAsked(t *testing.T, text string, b *bus, ahead api.State, want ...asked) {
	t.Helper()
	if want = append([]asked{fetch(ahead)}, want...); !slices.Equal(b.asked, want) {
		t.Errorf("%s: the bus was asked\n%+v, want\n%+v", text, b.asked, want)
	}
}

// entered: the state in an exception.
func entered(s api.State, mode uint32, bank int, back, vector uint32) api.State {
	s.SPSR[bank] = s.CPSR
	s.LR[bank] = back
	s.CPSR = s.CPSR&0xF0000080 | 0x80 | mode
	s.PC = vector
	return s
}

func same(*api.State) {}
