package core_test

import (
	"encoding/binary"
	"math/rand"
	"slices"
	"strconv"
	"strings"
	"testing"

	"atlas/api"
	"atlas/core"
	"atlas/machine"
	"atlas/rights"
)

// patterns: of words, most of them such as reach the machine; a letter is a bit at random, z one that is 0 most times.
var patterns = strings.Fields(`
1110010pu0w1nnnnddddzzzzziiiiizz 1110010pu0w0nnnnddddzzzzziiiiizz 1110010pu1w1nnnnddddzzzzziiiiiii 1110010pu1w0nnnnddddzzzzziiiiiii
1110010110z1nnnnddddzzzzzzzzzzzz 1110010110z0nnnnddddzzzzzzzzzzzz 11100100u0z1nnnndddd0000zzziiizz 11100100u0z0nnnndddd0000zzziiizz
1110000pu1w1nnnnddddzzii1oo1iiiz 1110000pu1w0nnnnddddzzii1011iiiz 1110011pu0w1nnnndddd000000000mmm 1110011pu0w0nnnndddd000000000mmm
1110100pu0w1nnnn000zllllllllllll 1110100pu0w0nnnn000zllllllllllll 1110100pu0w1nnnn00000000000lllll 1110100pu0w0nnnn00000000000lllll
11101110000o00xxdddd11110000000v 11101110000o1000dddd11110001011v 111011100000o111dddd11110001v100 111011100000o111dddd1111vvv1000z
11101110000o0101dddd1111vvv10000 11101110000o0110dddd1111vvv10000 111011100000xxxxdddd1111vvv1zzzz
cccc001oooosnnnnddddiiiiiiiiiiii cccc000oooosnnnnddddkkkkktt0mmmm 1110001oooo1nnnn0xxxiiiiiiiiiiii
11101010000000000000000000oiiiii 11101011000000000000000000oiiiii cccc1111iiiiiiiiiiiiiiiiiiiiiiii 11100001001000000000000001110000
111000110010100111110000z00ooooo 1110000101001111dddd000000000000 11100011001000001111000000000000 11100011001000001111000000000011
`)

// world: what comes at random, from few addresses and words, so that they meet.
type world struct{ *rand.Rand }

func pick[T any](w world, l ...T) T { return l[w.Intn(len(l))] }

// chance: true once in n.
func (w world) chance(n int) bool { return w.Intn(n) == 0 }

// word: of an instruction, most of them. (z: a bit that is 0 most times.)
func (w world) word() (word uint32) {
	for _, bit := range pick(w, patterns...) {
		word <<= 1
		if bit == '1' || bit == 'z' && w.chance(6) || bit != '0' && bit != 'z' && w.chance(2) {
			word++
		}
	}
	return word
}

// va: most at pages that are there.
func (w world) va() uint32 {
	at := pick[uint32](w, 0, 0, 0, 1, 1, 2, 3, 7, 7, 7, 7, 12, 12, w.Uint32()%13, w.Uint32()%13) << 20
	if at == 7<<20 || at == 12<<20 {
		at += w.Uint32() % 9 << 12
	} else {
		at += pick[uint32](w, root, tableA, tableA, code, data, data+0x1000, w.Uint32()&0xFF000)
	}
	at += pick(w, 0, 4, 0x20, w.Uint32()&0xFFC, w.Uint32()&0xFFC, w.Uint32()&0xFFF)
	if w.chance(40) {
		at |= 0x80000000
	}
	return at
}

// value: of a register.
func (w world) value() uint32 {
	return pick(w, w.va()&^3, w.va()&^3, w.va()&^3, w.va()&^3, w.va(), w.first(), w.second(), root+4*(w.Uint32()%13), tableA+4*(w.Uint32()%9), w.Uint32()%4, 0x105)
}

// state: whose next instructions stand at some address where there are some.
func (w world) state() api.State {
	mode := pick[uint32](w, api.ModeUSR, api.ModeUSR, api.ModeIRQ, api.ModeSVC, api.ModeSVC, api.ModeABT, api.ModeUND, api.ModeSYS)
	s := api.State{PC: w.where() &^ 3, CPSR: mode | w.Uint32()&0xF0000000 | pick[uint32](w, 0, 0, 0x80)}
	for n := range s.Low {
		s.Low[n] = w.value()
	}
	for bank := range s.SP {
		s.SP[bank], s.LR[bank] = w.value(), w.where()
		if bank > 0 {
			s.SPSR[bank] = pick[uint32](w, api.ModeUSR, api.ModeSVC, api.ModeSYS|0x80)
		}
	}
	return s
}

// where: most at the frames of the program.
func (w world) where() uint32 {
	if w.chance(6) {
		return w.va()
	}
	return code + w.Uint32()%0x2000
}

// first, second: descriptors.
func (w world) first() uint32 {
	bits := pick[uint32](w, 0xC00, 0xC00, 0x400, 0x800, 0x8400, 0x10) | w.Uint32()&0x20000 | pick[uint32](w, 0x20, 0x20, 0x20, 0x40, 0x60)
	switch w.Intn(8) {
	case 0:
		return 0
	case 1, 2:
		return tableA + pick[uint32](w, 0x21, 0x21, 0x61, 0x421)
	case 3:
		return pick[uint32](w, 0x10000021, 0x00100C22)
	}
	return bits | 2
}

func (w world) second() uint32 {
	bits := pick[uint32](w, 0x30, 0x30, 0x30, 0x10, 0x20, 0x230, 0x31) | w.Uint32()&0x800
	switch w.Intn(8) {
	case 0:
		return 0
	case 1:
		return data&^0xFFFF + bits&^1 + 1 // a large page
	case 2:
		return 0x00100032
	}
	return pick[uint32](w, code, code+0x1000, data, data+0x1000, data+0x2000, tableA&^0xFFF)&^0xFFF + bits + 2
}

func (w world) noise() api.Noise {
	return api.Noise{
		Act: pick(w, 0, 1, 2, 2), Which: 1 + w.Intn(3), Slot: w.Intn(4), VA: w.va(), Fetch: w.chance(2), Pick: w.Intn(4) - 1, MainFirst: w.chance(2),
	}
}

// group: machines to which the same is done, but for noise; the last one is the model's.
type group []*machine.Machine

func (g group) poke(pa uint64, v uint32) {
	for _, m := range g {
		m.Poke(pa, v)
	}
}

func (g group) mcr(t api.Tuple, v uint32) {
	for _, m := range g {
		m.Mcr(t, v, false)
	}
}

// fill: a frame, with words at random.
func (g group) fill(w world, frame int) {
	var b []byte
	for range 1024 {
		b = binary.LittleEndian.AppendUint32(b, w.word())
	}
	for _, m := range g {
		m.Fill(frame, b)
	}
}

// config: with few places.
func (w world) config() api.Config {
	return api.Config{Frames: 256, I: 1 + w.Intn(3), D: 1 + w.Intn(3), Main: 1 + w.Intn(4)}
}

// machines: of those configs; programs and tables at random, the same in all, the context on.
func (w world) machines(t *testing.T, configs ...api.Config) (g group) {
	t.Helper()
	for _, c := range configs {
		g = append(g, newMachine(t, c))
	}
	for _, frame := range []int{0, code >> 12, code>>12 + 1} {
		g.fill(w, frame)
	}
	for n := range uint64(9) {
		g.poke(tableA+4*n, w.second())
	}
	for pa, v := range tables {
		if pa < tableA {
			g.poke(pa, v)
		}
	}
	g.poke(root+4*12, tableA+0x21)
	g.setContext()
	return g
}

// setContext: it is on, by the root of these tests, and nothing stale is known.
func (g group) setContext() {
	g.poke(root, tables[root])
	g.mcr(ttbr0, root)
	g.mcr(ttbr1, 0x10000000)
	g.mcr(ttbcr, 1)
	g.mcr(dacr, 1<<2|3<<6)
	g.mcr(sctlr, on)
	g.mcr(dropAll, 0)
}

// turn: tables and registers that the program does not write itself; most times what is stale by it is dropped.
func (w world) turn(g group) {
	switch w.Intn(6) {
	case 0:
		g.poke(tableA+4*uint64(w.Intn(9)), w.second())
	case 1:
		g.poke(root+4*uint64(1+w.Intn(11)), w.first())
	case 2:
		g.mcr(context, w.Uint32()%3)
	case 3:
		g.mcr(dacr, pick[uint32](w, 0xFFFFFFFF, 5<<2))
	case 4:
		g.mcr(sctlr, pick[uint32](w, 0, on|afe))
	case 5:
		g.setContext()
	}
	if !w.chance(4) {
		g.mcr(dropAll, 0)
	}
}

// expectFault: P2202: the fault that a step took is told in the registers.
func expectFault(t *testing.T, m *machine.Machine, k api.Took) {
	t.Helper()
	if k.Fault == (api.Fault{}) {
		return
	}
	want, _ := rights.Status(k.Fault, k.Store)
	status, at := m.Reg(api.RegDFSR), m.Reg(api.RegDFAR)
	if k.Kind == api.TookPrefetch {
		status, at, want = m.Reg(api.RegIFSR), m.Reg(api.RegIFAR), want&0x140F
	}
	if status != want || at != k.VA {
		t.Errorf("%+v is told as %#x at %#x", k, status, at)
	}
}

// ask: what else is asked of the cores, and of the model: states, the timer, the line, the way back.
func (w world) ask(cores []*core.Core, o *model) {
	if s := w.state(); w.chance(3) {
		o.cpu.Load(s)
		for _, c := range cores {
			c.Load(s)
		}
	}
	if n := w.Intn(12) - 2; w.chance(6) {
		if n >= 0 {
			o.set(n)
		}
		for _, c := range cores {
			c.Timer(n)
		}
	}
	if on := w.chance(2); w.chance(8) {
		o.cpu.Line(on)
		for _, c := range cores {
			c.Line(on)
		}
	}
	if back := pick[uint32](w, 0, 4, 8); w.chance(4) {
		o.cpu.Return(back)
		for _, c := range cores {
			c.Return(back)
		}
	}
	if n, v := w.Intn(18)-1, w.value(); w.chance(4) {
		o.cpu.Set(n, v)
		for _, c := range cores {
			c.Set(n, v)
		}
	}
}

// seen: what came in the episodes.
type seen struct {
	steps, stale int
	took         [api.TookWait + 1]int
	faults       [api.FBus + 1]int
}

// episode: the cores do what the model does, till an access is at a Stale address.
func (w world) episode(t *testing.T, s *seen) {
	g := w.machines(t, w.config(), w.config(), small)
	a, b, o := over(t, g[0]), over(t, g[1]), newModel(g[2])
	for range 40 {
		if w.chance(3) {
			w.turn(g)
		}
		w.ask([]*core.Core{a, b}, o)
		for _, m := range g[:2] {
			m.Noise([]api.Noise{w.noise(), w.noise(), w.noise(), w.noise(), w.noise()}[:w.Intn(6)])
			m.Events()
		}
		o.bus.asked = nil
		n := w.Intn(7)
		made, took := o.run(n)
		s.steps += made
		if o.bus.stale {
			s.stale++
			return
		}
		s.took[took.Kind]++
		s.faults[took.Fault.Kind]++
		// P2203: Run is as many steps as the other core makes.
		if gotMade, got := a.Run(n); gotMade != made || got != took {
			t.Fatalf("Run(%d) = %d, %+v, want %d, %+v", n, gotMade, got, made, took)
		}
		for range made {
			expectFault(t, b.Machine(), b.Step())
		}
		expectFault(t, a.Machine(), took)
		expectEvents(t, a, "the run", o.bus.asked...)
		expectEvents(t, b, "the steps", o.bus.asked...)
		o.expectSame(t, a)
		o.expectSame(t, b)
		if t.Failed() {
			t.Fatalf("behind %+v", o.trail[max(0, len(o.trail)-4):])
		}
	}
	expectMemory(t, g[0], g[2])
	expectMemory(t, g[1], g[2])
}

// TestAny: P2201 to P2205: cores over machines with noise, unlike in their places, do what the model does over the tables as they stand.
func TestAny(t *testing.T) {
	for seed := range int64(8) {
		t.Run(strconv.FormatInt(seed, 10), func(t *testing.T) {
			t.Parallel()
			w, s := world{rand.New(rand.NewSource(2200 + seed))}, seen{}
			for range 80 {
				w.episode(t, &s)
			}
			t.Logf("%+v", s)
		})
	}
}

// TestAnyRun: P2203: of alike machines with the same noise, Stale or not: what Run comes to, as many Steps come to, and the machines are alike behind them.
func TestAnyRun(t *testing.T) {
	t.Parallel()
	w := world{rand.New(rand.NewSource(2203))}
	for range 40 {
		c := w.config()
		g := w.machines(t, c, c)
		a, b, o := over(t, g[0]), over(t, g[1]), newModel(newMachine(t, small))
		for range 30 {
			if w.chance(3) {
				w.turn(g)
			}
			w.ask([]*core.Core{a, b}, o)
			noise := []api.Noise{w.noise(), w.noise(), w.noise(), w.noise()}
			for _, m := range g {
				m.Noise(noise)
			}
			n, stepped, last := w.Intn(9)-1, 0, api.Took{}
			for stepped < n && last.Kind == api.TookNone {
				last = b.Step()
				stepped++
			}
			if made, took := a.Run(n); made != stepped || took != last {
				t.Fatalf("Run(%d) = %d, %+v, want %d, %+v", n, made, took, stepped, last)
			}
			if a.State() != b.State() || a.Count() != b.Count() || a.Left() != b.Left() || !slices.Equal(a.Trail(), b.Trail()) {
				t.Fatalf("Run(%d) leaves\n%x, want\n%x", n, a.State(), b.State())
			}
			expectFault(t, g[0], last)
			expectAlike(t, g[0], g[1])
		}
		expectMemory(t, g[0], g[1])
	}
}

// expectAlike: the steps that were made, the registers, and the places.
func expectAlike(t *testing.T, a, b *machine.Machine) {
	t.Helper()
	if !slices.Equal(a.Events(), b.Events()) || a.Left() != b.Left() {
		t.Fatal("the steps of the machines are not alike")
	}
	for reg := range api.Registers {
		if a.Reg(reg) != b.Reg(reg) {
			t.Fatalf("the register %d is %#x and %#x", reg, a.Reg(reg), b.Reg(reg))
		}
	}
	for _, which := range []int{api.TlbI, api.TlbD, api.TlbMain} {
		if !slices.Equal(a.Places(which), b.Places(which)) {
			t.Fatalf("the places of the TLB %d are not alike", which)
		}
	}
}
