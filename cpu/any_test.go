package cpu_test

import (
	"math/rand"
	"slices"
	"strings"
	"testing"

	"atlas/alu"
	"atlas/api"
	"atlas/isa"
)

// patterns: of the words of chapter 19; a letter is a bit at random.
var patterns = strings.Fields(`
cccc001oooosnnnnddddiiiiiiiiiiii cccc000oooosnnnnddddkkkkktt0mmmm cccc000oooosnnnnddddrrrr0tt1mmmm
cccc00110oo1nnnn0000iiiiiiiiiiii cccc00010oo1nnnn0000kkkkktt0mmmm cccc00010oo1nnnn0000rrrr0tt1mmmm
cccc00111o1s0000ddddiiiiiiiiiiii cccc00011o1s0000ddddkkkkktt0mmmm cccc00011o1s0000ddddrrrr0tt1mmmm
cccc00110o00iiiiddddiiiiiiiiiiii
cccc0000000sdddd0000rrrr1001mmmm cccc0000001sddddaaaarrrr1001mmmm cccc00001oosddddaaaarrrr1001mmmm
cccc000101101111dddd11110001mmmm cccc011010111111dddd11110011mmmm cccc01101o1o1111ddddkk000111mmmm
cccc010puow1nnnnddddiiiiiiiiiiii cccc010puow0nnnnddddiiiiiiiiiiii
cccc011puow1nnnnddddkkkkktt0mmmm cccc011puow0nnnnddddkkkkktt0mmmm
cccc000pu1w1nnnnddddiiii1oo1iiii cccc000pu1w0nnnnddddiiii1011iiii
cccc000pu0w1nnnndddd00001oo1mmmm cccc000pu0w0nnnndddd00001011mmmm
cccc100pu0w1nnnnllllllllllllllll cccc100pu0w0nnnnllllllllllllllll
cccc1010iiiiiiiiiiiiiiiiiiiiiiii cccc1011iiiiiiiiiiiiiiiiiiiiiiii
cccc000100101111111111110001mmmm cccc000100101111111111110011mmmm
cccc1111iiiiiiiiiiiiiiiiiiiiiiii cccc00010010iiiiiiiiiiii0111iiii
cccc00010s001111dddd000000000000 cccc00010s10kkkk111100000000mmmm cccc00110s10kkkk1111iiiiiiiiiiii
cccc1110yyy0xxxxdddd1111vvv1zzzz cccc1110yyy1xxxxdddd1111vvv1zzzz
cccc0011001000001111000000000000 cccc0011001000001111000000000011
llllllllllllllllllllllllllllllll
`)

// world: what comes at random.
type world struct{ *rand.Rand }

func pick[T any](w world, l ...T) T { return l[w.Intn(len(l))] }

// chance: true once in n.
func (w world) chance(n int) bool { return w.Intn(n) == 0 }

// word: of some row, half of them under the condition that holds always.
func (w world) word() (word uint32) {
	for _, bit := range pick(w, patterns...) {
		word <<= 1
		if bit == '1' || bit != '0' && w.chance(2) {
			word++
		}
	}
	if w.chance(2) {
		word = word&^(15<<28) | always<<28
	}
	return word
}

// value: of a register.
func (w world) value() uint32 {
	return pick(w, w.Uint32(), w.Uint32(), w.Uint32()%512, -(w.Uint32() % 64), 0, 1, 0x7FFFFFFF, 0x80000000, 0xFFFFFFFF, pick(w, modes...)|w.Uint32()&0xF0000080)
}

// state: any.
func (w world) state() api.State {
	s := api.State{PC: w.value() &^ 3, CPSR: pick(w, modes...) | w.Uint32()&0xF0000080}
	for n := range s.Low {
		s.Low[n] = w.value()
	}
	for bank := range s.SP {
		s.SP[bank], s.LR[bank] = w.value(), w.value()
		if bank > 0 {
			s.SPSR[bank] = pick(w, pick(w, modes...), pick(w, modes...), pick(w, modes...), w.Uint32()&31) | w.Uint32()&0xF0000080
		}
	}
	return s
}

// bus: with a fault here and there.
func (w world) bus() *bus {
	b := &bus{values: []uint32{w.word()}, faults: map[int]api.Fault{}}
	for range 16 {
		b.values = append(b.values, w.value())
	}
	if w.chance(40) {
		b.faults[0] = api.Fault{Kind: 1 + w.Intn(10)}
	}
	if w.chance(3) {
		b.faults[1+w.Intn(pick(w, 1, 3, 16))] = api.Fault{Kind: 1 + w.Intn(10), Level: w.Intn(3), Domain: w.Intn(16)}
	}
	if w.chance(3) {
		b.refusal = api.ErrUndef
	}
	return b
}

// again: the same answers, from the first one on, with or without the faults.
func (b *bus) again(faults bool) *bus {
	next := &bus{values: b.values, refusal: b.refusal}
	if faults {
		next.faults = b.faults
	}
	return next
}

// Any step is that of the model, and the promises hold of it.
func TestAnyStep(t *testing.T) {
	w := world{rand.New(rand.NewSource(20))}
	kinds, ops := map[int]int{}, map[int]int{}
	for range 150000 {
		s, b, line := w.state(), w.bus(), w.chance(8)
		c := loaded(t, s)
		c.Line(line)
		took, e := c.Step(b)
		behind := c.State()

		m, other := &model{s: s, line: line}, b.again(true)
		if want := m.step(other); e != api.OK || took != want || behind != m.s || !slices.Equal(b.asked, other.asked) {
			t.Fatalf("of %x, line %v, word %#x: %+v, %d: %x, asked %+v\nwant %+v: %x, asked %+v", s, line, b.values[0], took, e, behind, b.asked, want, m.s, other.asked)
		}
		if e := c.Load(behind); e != api.OK || c.State() != behind { // P2001
			t.Fatalf("of %x, word %#x: what is left is no state: %x", s, took.Word, behind)
		}
		twin := loaded(t, s) // P2004
		twin.Set(16, 5)
		twin.Line(!line)
		twin.Line(line)
		if k, _ := twin.Step(b.again(true)); k != took || twin.State() != behind {
			t.Fatalf("of %x, word %#x: once %x, once %x", s, took.Word, behind, twin.State())
		}
		checkBanks(t, s, behind, took)
		checkAgain(t, s, b, took)
		kinds[took.Kind]++
		if i, ok := isa.Decode(took.Word); ok && alu.Passed(i.Cond, alu.Flags(s.CPSR)) {
			ops[i.Op]++
		} else if ok && took.Kind == api.TookNone { // P2005
			if s.PC += 4; s != behind {
				t.Fatalf("word %#x, not passed: %x, want %x", took.Word, behind, s)
			}
		}
	}
	for kind := api.TookNone; kind <= api.TookWait; kind++ {
		if kinds[kind] < 100 {
			t.Errorf("only %d steps came to %d", kinds[kind], kind)
		}
	}
	for op := 1; op <= api.OpLast; op++ {
		if ops[op] < 100 {
			t.Errorf("only %d steps did the operation %d", ops[op], op)
		}
	}
}

// checkBanks: P2003.
func checkBanks(t *testing.T, s, behind api.State, took api.Took) {
	t.Helper()
	want := behind
	switch took.Kind {
	case api.TookNone, api.TookWait:
		if !isUser(s) {
			return
		}
		want.SP, want.LR, want.SPSR = s.SP, s.LR, s.SPSR
		want.SP[0], want.LR[0] = behind.SP[0], behind.LR[0]
		want.CPSR = s.CPSR&0xFF | behind.CPSR&0xF0000000
	default:
		bank := banks[behind.CPSR&31]
		want = s
		want.LR[bank], want.SPSR[bank], want.CPSR, want.PC = behind.LR[bank], behind.SPSR[bank], behind.CPSR, behind.PC
	}
	if behind != want {
		t.Fatalf("of %x, %+v: it has changed another bank: %x", s, took, behind)
	}
}

// checkAgain: P2002.
func checkAgain(t *testing.T, s api.State, b *bus, took api.Took) {
	t.Helper()
	var back uint32
	switch {
	case took.Kind == api.TookData:
		back = 8
	case took.Kind == api.TookPrefetch && took.Fault.Kind != api.FNone:
		back = 4
	default:
		return
	}
	c := loaded(t, s)
	c.Step(b.again(true))
	if e := c.Return(back); e != api.OK || withoutAbort(c.State()) != withoutAbort(s) {
		t.Fatalf("of %x, word %#x: Return(%d) = %d: %x", s, took.Word, back, e, c.State())
	}
	if banks[s.CPSR&31] == 2 {
		return
	}
	whole := loaded(t, s)
	wanted, _ := whole.Step(b.again(false))
	if k, _ := c.Step(b.again(false)); k != wanted || withoutAbort(c.State()) != withoutAbort(whole.State()) {
		t.Fatalf("of %x, word %#x, done again: %+v: %x, want %+v: %x", s, took.Word, k, c.State(), wanted, whole.State())
	}
}

// P2001, P2006: whatever calls come one behind the other, there is a state, and it is the model's.
func TestAnyCalls(t *testing.T) {
	w := world{rand.New(rand.NewSource(2001))}
	for range 300 {
		s := w.state()
		c := loaded(t, s)
		m := &model{s: s}
		for range 100 {
			switch w.Intn(8) {
			case 0:
				m.line = w.chance(2)
				c.Line(m.line)
			case 1:
				n, v := w.Intn(20)-2, w.value()
				c.Set(n, v)
				if n >= 0 && n < 16 {
					put(&m.s, n, v)
				}
			case 2:
				back := pick(w, uint32(0), 4, 8, w.value())
				bank := banks[m.s.CPSR&31]
				saved, want := m.s.SPSR[bank], api.ErrReturn
				if _, ok := banks[saved&31]; ok {
					want = api.OK
					m.s.PC = (m.s.LR[bank] - back) &^ 3
					m.s.CPSR = saved
				}
				if e := c.Return(back); e != want {
					t.Fatalf("Return = %d, want %d", e, want)
				}
			case 3:
				checkCall(t, c.State())
			default:
				b := w.bus()
				if took, e := c.Step(b); e != api.OK || took != m.step(b.again(true)) {
					t.Fatalf("Step = %+v, %d", took, e)
				}
			}
			if c.State() != m.s || c.Load(c.State()) != api.OK || c.State() != m.s {
				t.Fatalf("the state is %x, want %x", c.State(), m.s)
			}
		}
	}
}
