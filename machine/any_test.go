package machine_test

import (
	"math"
	"math/rand"
	"slices"
	"testing"

	"atlas/api"
	"atlas/rights"
	"atlas/walk"
)

// Where the tables of these tests stand: two roots of 16 KiB and four tables, in a memory of 1 MiB.
const (
	rootA  = 0x4000
	rootB  = 0x8000
	tableA = 0xc000
)

var (
	sctlr   = api.Tuple{CRn: 1}
	ttbr0   = api.Tuple{CRn: 2}
	ttbr1   = api.Tuple{CRn: 2, Op2: 1}
	ttbcr   = api.Tuple{CRn: 2, Op2: 2}
	dacr    = api.Tuple{CRn: 3}
	prrr    = api.Tuple{CRn: 10, CRm: 2}
	nmrr    = api.Tuple{CRn: 10, CRm: 2, Op2: 1}
	context = api.Tuple{CRn: 13, Op2: 1}
)

// world: what comes at random, from few addresses and words, so that they meet.
type world struct{ *rand.Rand }

func pick[T any](w world, l ...T) T { return l[w.Intn(len(l))] }

// chance: true once in n.
func (w world) chance(n int) bool { return w.Intn(n) == 0 }

func (w world) mib() uint32 {
	return pick(w, 0, 0, 0, 1, 1, 2, 16+w.Uint32()%16, 16+w.Uint32()%16, 0x400, 0xfff)
}

func (w world) page() uint32 {
	return pick(w, 0, 1, 2, 4+w.Uint32()%10, 16+w.Uint32()%16, 255)
}

func (w world) va() uint32 {
	return w.mib()<<20 + w.page()<<12 + pick(w, 0, 4, 8, 0x40, 0xffc, w.Uint32()%4096)
}

// first: a first-level descriptor.
func (w world) first() uint32 {
	domain := pick(w, uint32(0), 1, 2, 15) << 5
	bits := w.Uint32()&(1<<4|1<<17|7<<12|1<<16|3<<2) | pick(w, uint32(3), 3, 2, 1)<<10 | w.Uint32()&w.Uint32()&w.Uint32()&(1<<15)
	switch w.Intn(8) {
	case 0:
		return pick(w, uint32(0), 0, 3)
	case 1, 2, 3, 4:
		return tableA + w.Uint32()%4*1024 + domain + 1
	case 5:
		return pick(w, uint32(0xfff00), 0x10000000, 0x400) + domain + 1 // tables at the end of the memory, beyond it, and in nothing
	case 6:
		return pick(w, uint32(0), 0, 0, 0x100000) + domain + bits + 2
	}
	return pick(w, uint32(0), 0, 0x01000000, w.Uint32()&0xff000000) + 1<<18 + bits + 2 + pick(w, 0, 0, w.Uint32()&(15<<20|15<<5))
}

// second: a second-level descriptor.
func (w world) second() uint32 {
	bits := w.Uint32()&(3<<2|1<<10|1<<11) | pick(w, uint32(3), 3, 2, 1)<<4 | w.Uint32()&w.Uint32()&w.Uint32()&(1<<9)
	switch w.Intn(8) {
	case 0:
		return 0
	case 1, 2:
		return pick(w, uint32(0), 0x10000, 0xf0000, 0x100000) + bits + w.Uint32()&(7<<12|1<<15) + 1
	}
	return pick(w, w.Uint32()%16, w.Uint32()%32, 255, 256)<<12 + bits + w.Uint32()&(7<<6) + 2 + w.Uint32()%2
}

// access: most at words.
func (w world) access() api.Access {
	a := api.Access{Kind: 1 + w.Intn(3), VA: w.va(), Bytes: pick(w, 1, 2, 4, 4, 4), Value: pick(w, 0, w.first(), w.second(), w.Uint32()), Priv: w.chance(2)}
	if !w.chance(8) {
		a.VA -= a.VA % uint32(a.Bytes)
	}
	if w.chance(50) {
		a.Kind = pick(w, 0, 4, -1, math.MaxInt)
	}
	if w.chance(50) {
		a.Bytes = pick(w, 0, 3, 8, -4, math.MinInt)
	}
	return a
}

func (w world) noise() api.Noise {
	return api.Noise{
		Act: pick(w, 0, 1, 2, 2, 3, -1), Which: pick(w, 1, 2, 3, 0, 4), Slot: pick(w, 0, 1, 2, 3, -1),
		VA: w.va(), Fetch: w.chance(2), Pick: pick(w, 0, 1, 2, -1, math.MinInt, math.MaxInt), MainFirst: w.chance(2),
	}
}

// bothAtRandom: a machine and its model with small TLBs, the context On.
func (w world) bothAtRandom(t *testing.T) *both {
	b := newBoth(t, api.Config{Frames: 256, I: 1 + w.Intn(3), D: 1 + w.Intn(3), Main: 1 + w.Intn(4)})
	for _, mib := range []uint64{0, 1, 2, 16, 17, 31, 0x400, 0xfff} {
		b.poke(rootA+4*mib, w.first())
		b.poke(rootB+4*mib, w.first())
	}
	for range 40 {
		b.pokeTable(w)
	}
	b.mcr(ttbr0, rootA, false)
	b.mcr(ttbr1, rootB, false)
	b.mcr(dacr, 0x40000015, false)
	b.mcr(sctlr, 1, false)
	return b
}

func (b *both) pokeTable(w world) {
	b.t.Helper()
	b.poke(tableA+uint64(1024*w.Intn(4)+4*int(w.page())), w.second())
}

// turn: a register that the context is made of is written.
func (b *both) turn(w world) {
	b.t.Helper()
	switch w.Intn(9) {
	case 0, 1, 2:
		b.mcr(context, pick(w, w.Uint32()%3, w.Uint32()&0xffffff03), false)
	case 3:
		b.mcr(ttbr0, pick[uint32](w, rootA, rootA, rootB, 0x4080, 0x100000), false)
	case 4:
		b.mcr(ttbr1, pick[uint32](w, rootA, rootB, rootB, 0x100000), false)
	case 5:
		b.mcr(ttbcr, pick[uint32](w, 0, 0, 1, 2, 7, 0x10, 0x22), false)
	case 6:
		b.mcr(dacr, pick(w, 0x40000015, 0x40000015, 0xffffffff, w.Uint32()), false)
	case 7:
		b.mcr(sctlr, pick[uint32](w, 1, 1, 1, 0, 0x10000000, 0x10000001, 0x20000001), false)
	case 8:
		b.mcr(pick(w, prrr, nmrr), w.Uint32(), false)
	}
}

// other: any other write to the coprocessor, those that are refused too.
func (b *both) other(w world) {
	b.t.Helper()
	switch w.Intn(8) {
	case 0, 1, 2:
		b.mcr(api.Tuple{CRn: 8, CRm: pick(w, 3, 5, 6, 7, 7), Op2: pick(w, 0, 1, 1, 1, 2, 3)}, w.va()&^4095+w.Uint32()%3, false)
	case 3, 4, 5:
		b.mcr(api.Tuple{CRn: 7, CRm: 8, Op2: w.Intn(4)}, w.va(), w.chance(8))
	case 6:
		b.mcr(pick(w, api.Tuple{CRn: 7, CRm: 5, Op2: 4}, api.Tuple{CRn: 7, CRm: 10, Op2: 4}, api.Tuple{CRn: 7, CRm: 10, Op2: 5}, api.Tuple{CRn: 5}, api.Tuple{CRn: 7, CRm: 4}), w.Uint32(), w.chance(2))
	case 7:
		b.mcr(api.Tuple{CRn: w.Intn(16), Op1: w.Intn(2), CRm: w.Intn(16), Op2: w.Intn(8)}, w.Uint32()&0xff, true)
	}
}

// frames: some frames, of which the tables' are most.
func (b *both) frames(w world) {
	b.t.Helper()
	frame := func() int { return pick(w, 4, 8, 12, w.Intn(16), w.Intn(256), 255, 256, -1) }
	switch w.Intn(3) {
	case 0:
		b.wipe(frame(), pick(w, 1, 1, 2, 0))
	case 1:
		b.copy(frame(), frame(), pick(w, 1, 4, 4, 5, 0))
	case 2:
		l := make([]byte, pick(w, 4096, 4096, 4095))
		for i := range len(l) / 4 {
			row(l).setNumber(uint64(4*i), 4, pick(w, 0, 0, 0, w.second()))
		}
		b.fill(frame(), l)
	}
}

// step: any call but an access.
func (b *both) step(w world) {
	b.t.Helper()
	switch w.Intn(20) {
	case 0, 1, 2:
		root := pick[uint64](w, rootA, rootA, rootB)
		b.poke(root+uint64(4*w.mib()), w.first())
	case 3, 4, 5, 6, 7:
		b.pokeTable(w)
	case 8, 9:
		b.turn(w)
	case 10, 11, 12, 13, 14:
		b.other(w)
	case 15:
		b.frames(w)
	case 16:
		b.poke(pick(w, 2, 0x100000, 0x100001, 0xffffc, w.Uint64()), w.Uint32())
	default:
		b.noise(w.noise(), w.noise(), w.noise())
	}
}

// TestAnySteps: behind any calls a machine is what its model is.
func TestAnySteps(t *testing.T) {
	t.Parallel()
	for seed := range int64(12) {
		w := world{rand.New(rand.NewSource(seed))}
		b := w.bothAtRandom(t)
		for i := range 400 {
			if w.chance(2) {
				b.do(w.access())
			} else {
				b.step(w)
			}
			b.same([]any{seed, i})
			if w.chance(20) {
				b.sameEvents([]any{seed, i})
				b.sameBytes([]any{seed, i})
			}
		}
		b.sameEvents(seed)
		b.sameBytes(seed)
	}
}

// plain: the answer of a machine without TLBs.
func plain(m row, c api.Context, a api.Access) api.Answer {
	if a.VA%uint32(a.Bytes) != 0 {
		return api.Answer{Fault: api.Fault{Kind: api.FAlign}}
	}
	pa, f := walk.Go(m, c, a.VA, a.Priv, a.Kind)
	return at(m, pa, f, a)
}

// at: the answer at a physical address, if there is no fault ahead of it.
func at(m row, pa uint64, f api.Fault, a api.Access) api.Answer {
	if f != (api.Fault{}) {
		return api.Answer{Fault: f}
	}
	v, e := m.number(pa, a.Bytes)
	switch {
	case e != api.OK:
		return api.Answer{Fault: api.Fault{Kind: api.FBus}}
	case a.Kind == api.Store:
		return api.Answer{}
	}
	return api.Answer{Value: v}
}

// sizeBits: the offset's bits (DOC.md, rule 7).
var sizeBits = map[int]uint{api.Small: 12, api.Large: 16, api.Section: 20, api.Super: 24}

// past: the blocks that walks by the registers found behind some step.
type past map[api.Block]bool

func (p past) see(b *both) {
	c := b.o.file.Context()
	for t := range walk.Blocks(b.o.memory, c) {
		p[modelBlock(c, t)] = true
	}
}

// says: may a block of the past answer so?
func (p past) says(m row, c api.Context, a api.Access, answer api.Answer) bool {
	for b := range p {
		t := b.Trans
		if a.VA>>sizeBits[t.Size] != t.VA>>sizeBits[t.Size] || b.Asid != -1 && b.Asid != c.Asid {
			continue
		}
		if at(m, t.PA+uint64(a.VA-t.VA), rights.Check(t, c, a.Priv, a.Kind), a) == answer {
			return true
		}
	}
	return false
}

// TestOutsideTheStaleSet: P1310, P2 of DOC.md, P1309 and P1312.
func TestOutsideTheStaleSet(t *testing.T) {
	t.Parallel()
	fresh, old, faults := 0, 0, map[[2]int]int{}
	for seed := range int64(12) {
		w := world{rand.New(rand.NewSource(100 + seed))}
		b, p := w.bothAtRandom(t), past{}
		p.see(b)
		for i := range 300 {
			if w.chance(2) {
				b.step(w)
				p.see(b)
				b.knows([]any{seed, i})
				continue
			}
			a := w.access()
			a.Kind, a.Bytes = 1+(a.Kind&3)%3, pick(w, 1, 2, 4)
			c := b.m.Context()
			stale := c.On && b.m.Stale(c.Asid, a.VA)
			want, before := plain(b.o.memory, c, a), slices.Clone(b.o.memory)
			conflict := api.Answer{Fault: api.Fault{Kind: api.FConflict}}
			got := b.do(a)
			faults[[2]int{got.Fault.Kind, got.Fault.Level}]++
			switch {
			case got == want:
				fresh++
			case !stale:
				t.Fatalf("%d %d: %+v: %+v, not %+v", seed, i, a, got, want)
			case got != conflict && !p.says(before, c, a, got):
				t.Fatalf("%d %d: %+v: %+v, which no block said", seed, i, a, got)
			default:
				old++
			}
			if got.Fault.Kind != api.FNone && !slices.Equal(before, b.o.memory) {
				t.Fatalf("%d %d: %+v changed a byte", seed, i, a)
			}
			p.see(b)
			b.knows([]any{seed, i})
		}
		b.sameBytes(seed)
	}
	for f := range codes {
		if faults[f] == 0 {
			t.Errorf("no fault %v was met: %v", f, faults)
		}
	}
	if fresh < 500 || old < 20 {
		t.Errorf("%d answers of the walk, %d of a TLB alone", fresh, old)
	}
}

// knows: P1309: each block in a place is known.
func (b *both) knows(what any) {
	b.t.Helper()
	known := b.m.Known()
	for _, which := range []int{api.TlbI, api.TlbD, api.TlbMain} {
		for _, s := range b.m.Places(which) {
			if s.Full && !slices.Contains(known, s.Block) {
				b.t.Fatalf("%v: %+v stands in the TLB %d, and is not known", what, s.Block, which)
			}
		}
	}
}

// TestWhenItGrows: P1311.
func TestWhenItGrows(t *testing.T) {
	t.Parallel()
	grown := map[int]int{}
	for seed := range int64(12) {
		w := world{rand.New(rand.NewSource(200 + seed))}
		b := w.bothAtRandom(t)
		b.m.Events()
		for i := range 300 {
			memory, c, dirty := slices.Clone(b.o.memory), b.m.Context(), b.m.Dirty()
			if w.chance(2) {
				a := w.access()
				a.Kind, a.Priv = api.Store, true
				b.do(a)
			} else {
				b.step(w)
			}
			events := b.m.Events()
			for _, d := range b.m.Dirty() {
				if slices.Contains(dirty, d) {
					continue
				}
				kind := events[0].Kind // only a step can have changed it
				grown[kind]++
				if c != b.m.Context() && kind == api.EvReg {
					continue
				}
				written := slices.Contains([]int{api.EvPoke, api.EvWipe, api.EvCopy, api.EvFill, api.EvAccess}, kind)
				if !written || !changed(b, memory, d) {
					t.Fatalf("%d %d: %+v is dirty behind %+v", seed, i, d, events)
				}
			}
		}
	}
	for _, kind := range []int{api.EvPoke, api.EvReg, api.EvAccess, api.EvWipe, api.EvCopy, api.EvFill} {
		if grown[kind] == 0 {
			t.Errorf("no event %d made a dirt", kind)
		}
	}
}

// changed: is a word of those that walks of a dirt's pages read, by some judge, another one than it was? (A global block that one judge finds from now on is dirty for each other one who does not.)
func changed(b *both, before row, d api.Dirt) bool {
	t := d.Block.Trans
	for asid := range 256 {
		judge, _ := b.m.Judge(asid)
		for i := range uint32(16) {
			for _, pa := range walk.Reads(before, judge, t.VA+i<<(sizeBits[t.Size]-4)) {
				was, _ := before.Word(pa)
				if is, _ := b.o.memory.Word(pa); is != was {
					return true
				}
			}
		}
	}
	return false
}
