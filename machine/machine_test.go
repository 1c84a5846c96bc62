package machine_test

import (
	"math"
	"slices"
	"testing"

	"atlas/api"
	"atlas/cp15"
	"atlas/machine"
)

var small = api.Config{Frames: 256, I: 2, D: 2, Main: 2}

func made(t *testing.T, c api.Config) *machine.Machine {
	t.Helper()
	m, e := machine.New(c)
	if e != api.OK {
		t.Fatal(c, e)
	}
	return m
}

// must: no call of a test's beginning is refused.
func must(t *testing.T, l ...api.Errno) {
	t.Helper()
	for i, e := range l {
		if e != api.OK {
			t.Fatalf("the call %d: %v", i, e)
		}
	}
}

// answers: an access, and what it must answer.
func answers(t *testing.T, m *machine.Machine, a api.Access, want api.Answer) {
	t.Helper()
	if got, e := m.Do(a); got != want || e != api.OK {
		t.Errorf("%+v: %+v %v, not %+v", a, got, e, want)
	}
}

func load(va uint32, bytes int) api.Access {
	return api.Access{Kind: api.Load, VA: va, Bytes: bytes}
}

func store(va uint32, bytes int, v uint32) api.Access {
	return api.Access{Kind: api.Store, VA: va, Bytes: bytes, Value: v}
}

func fetch(va uint32, bytes int) api.Access {
	return api.Access{Kind: api.Fetch, VA: va, Bytes: bytes}
}

func value(v uint32) api.Answer { return api.Answer{Value: v} }

func fault(kind int) api.Answer { return api.Answer{Fault: api.Fault{Kind: kind}} }

// TestNew: P1301, and what a machine is behind it.
func TestNew(t *testing.T) {
	good := []int{1, 2, 63, 64}
	bad := []int{0, 65, -1, 128, math.MinInt, math.MaxInt}
	for frames, want := range map[int]api.Errno{
		0: api.ErrArg, 1: api.ErrArg, 128: api.ErrArg, 255: api.ErrArg, 256: api.OK, 257: api.ErrArg, 384: api.ErrArg, 511: api.ErrArg, 512: api.OK, 768: api.OK, 65280: api.OK, 65535: api.ErrArg, 65536: api.OK, 65537: api.ErrArg, 65792: api.ErrArg, 131072: api.ErrArg,
		-1: api.ErrArg, -256: api.ErrArg, math.MinInt: api.ErrArg, math.MaxInt: api.ErrArg, math.MaxInt - 255: api.ErrArg,
	} {
		isMachine(t, api.Config{Frames: frames, I: 1, D: 2, Main: 64}, want)
		isMachine(t, api.Config{Frames: frames, I: 65, D: 2, Main: 64}, api.ErrArg)
	}
	for _, n := range good {
		isMachine(t, api.Config{Frames: 256, I: n, D: 3, Main: 4}, api.OK)
		isMachine(t, api.Config{Frames: 256, I: 3, D: n, Main: 4}, api.OK)
		isMachine(t, api.Config{Frames: 256, I: 3, D: 4, Main: n}, api.OK)
		isMachine(t, api.Config{Frames: 256, I: 3, D: 4, Main: 5, Asids: n, N: -n}, api.OK)
	}
	for _, n := range bad {
		isMachine(t, api.Config{Frames: 256, I: n, D: 3, Main: 4}, api.ErrArg)
		isMachine(t, api.Config{Frames: 256, I: 3, D: n, Main: 4}, api.ErrArg)
		isMachine(t, api.Config{Frames: 256, I: 3, D: 4, Main: n}, api.ErrArg)
		isMachine(t, api.Config{Frames: 256, I: 3, D: 4, Main: 5, Asids: n, N: n}, api.OK)
	}
}

// isMachine: what New answers, and, if that is a machine, that it is as behind a reset.
func isMachine(t *testing.T, c api.Config, want api.Errno) {
	t.Helper()
	m, e := machine.New(c)
	if e != want || (m == nil) != (e != api.OK) {
		t.Fatalf("%+v: %v %v, not %v", c, m != nil, e, want)
	}
	if m == nil {
		return
	}
	if m.Frames() != c.Frames || m.Left() != 0 || len(m.Events()) != 0 || len(m.Known()) != 0 || len(m.Dirty()) != 0 || m.Context() != cp15.New().Context() {
		t.Errorf("%+v: %d %d %+v", c, m.Frames(), m.Left(), m.Context())
	}
	for which, n := range map[int]int{api.TlbI: c.I, api.TlbD: c.D, api.TlbMain: c.Main, 0: 0, 4: 0, -1: 0, math.MaxInt: 0} {
		if l := m.Places(which); len(l) != n || slices.ContainsFunc(l, func(s api.Slot) bool { return s != (api.Slot{}) }) {
			t.Errorf("%+v: Places(%d) %+v", c, which, l)
		}
	}
	for reg := range api.Registers {
		start, _ := cp15.New().Get(reg)
		if m.Reg(reg) != start {
			t.Errorf("Reg(%d) %#x, not %#x", reg, m.Reg(reg), start)
		}
	}
	for asid := -1; asid <= 256; asid++ {
		if j, ok := m.Judge(asid); ok || j != (api.Context{}) || m.Stale(asid, 0) {
			t.Errorf("Judge(%d) %+v %v", asid, j, ok)
		}
	}
	end := uint64(c.Frames) * 4096
	if v, e := m.Word(end - 4); v != 0 || e != api.OK {
		t.Error(c, v, e)
	}
	if v, e := m.Word(end); v != 0 || e != api.ErrBus {
		t.Error(c, v, e)
	}
}

// TestExamples: those of the chapter, one behind the other.
func TestExamples(t *testing.T) {
	m := made(t, small)
	answers(t, m, store(8, 4, 0x55), value(0))
	answers(t, m, load(8, 1), value(0x55))
	answers(t, m, load(0x100000, 4), fault(api.FBus))
	if m.Reg(api.RegDFSR) != 8 || m.Reg(api.RegDFAR) != 0x100000 {
		t.Errorf("%#x %#x", m.Reg(api.RegDFSR), m.Reg(api.RegDFAR))
	}
	answers(t, m, load(2, 4), fault(api.FAlign))
	if m.Reg(api.RegDFSR) != 1 {
		t.Errorf("%#x", m.Reg(api.RegDFSR))
	}
	if a, e := m.Do(load(0, 3)); a != (api.Answer{}) || e != api.ErrArg {
		t.Error(a, e)
	}
	told := []api.Event{{Kind: api.EvAccess, Addr: 8}, {Kind: api.EvAccess, Addr: 8}, {Kind: api.EvAccess, Addr: 0x100000, Value: 1}, {Kind: api.EvAccess, Addr: 2, Value: 1}}
	if l := m.Events(); !slices.Equal(l, told) {
		t.Errorf("%+v", l)
	}

	must(t, m.Poke(0x4000, 0x00000c02), m.Mcr(ttbr0, 0x4000, false), m.Mcr(dacr, 1, false), m.Mcr(sctlr, 1, false))
	answers(t, m, load(8, 4), value(0x55))
	answers(t, m, load(0x100000, 4), fault(api.FTrans1))
	if m.Reg(api.RegDFSR) != 5 {
		t.Errorf("%#x", m.Reg(api.RegDFSR))
	}

	section := api.Block{Asid: api.AnyAsid, Trans: api.Trans{Size: api.Section, Leaf: api.Leaf{AP: 3}}}
	if l := m.Places(api.TlbMain); !slices.Equal(l, []api.Slot{{Full: true, Block: section}, {}}) {
		t.Errorf("%+v", l)
	}
	if l := m.Known(); !slices.Equal(l, []api.Block{section}) {
		t.Errorf("%+v", l)
	}
	must(t, m.Poke(0x4000, 0))
	if l := m.Dirty(); !slices.Equal(l, []api.Dirt{{Asid: 0, Block: section}}) || !m.Stale(0, 8) {
		t.Errorf("%+v", l)
	}
	answers(t, m, load(8, 4), value(0x55))
	must(t, m.Noise([]api.Noise{{Act: api.NEvict, Which: api.TlbMain}, {Act: api.NEvict, Which: api.TlbD}}))
	answers(t, m, load(8, 4), value(0x55))
	answers(t, m, load(8, 4), fault(api.FTrans1))

	must(t, m.Mcr(api.Tuple{CRn: 8, CRm: 7}, 0, false))
	if l := m.Dirty(); len(l) != 0 {
		t.Errorf("%+v", l)
	}
	answers(t, m, load(8, 4), fault(api.FTrans1))
}

// on: a machine whose context is On, with the root at 0x4000 and the domains as DACR says.
func on(t *testing.T, c api.Config, domains uint32, pokes map[uint64]uint32) *machine.Machine {
	t.Helper()
	m := made(t, c)
	for pa, v := range pokes {
		must(t, m.Poke(pa, v))
	}
	must(t, m.Mcr(ttbr0, rootA, false), m.Mcr(dacr, domains, false), m.Mcr(sctlr, 1, false))
	m.Events()
	return m
}

// TestLooks: P1307: what they answer, and that none is a step.
func TestLooks(t *testing.T) {
	// A table at 0xc000 in the domain 1: the page 1 stands at 0x7000, not global, the page 2 at 0x8000, global.
	m := on(t, small, 5, map[uint64]uint32{0x4000: 0xc021, 0xc004: 0x783e, 0xc008: 0x803e, 0x7000: 0x11223344, 0x8ffc: 0xfedcba98, 0xffffc: 7})
	must(t, m.Mcr(context, 7, false), m.Noise(make([]api.Noise, 3)))
	before := m.Left()
	page := api.Block{Asid: 7, Trans: api.Trans{Size: api.Small, VA: 0x1000, PA: 0x7000, Domain: 1, Leaf: api.Leaf{AP: 3, Bits: 6, NG: true}}}
	global := api.Block{Asid: -1, Trans: api.Trans{Size: api.Small, VA: 0x2000, PA: 0x8000, Domain: 1, Leaf: api.Leaf{AP: 3, Bits: 6}}}
	other := page
	other.Asid = 0 // it was seen ahead of the ASID 7
	m.Events()

	for range 2 {
		for pa, want := range map[uint64]uint32{0x7000: 0x11223344, 0x8ffc: 0xfedcba98, 0xffffc: 7, 0: 0} {
			if v, e := m.Word(pa); v != want || e != api.OK {
				t.Errorf("Word(%#x) %#x %v", pa, v, e)
			}
		}
		for pa, want := range map[uint64]api.Errno{2: api.ErrAlign, 0x100000: api.ErrBus, 0x100002: api.ErrAlign, math.MaxUint64: api.ErrAlign, math.MaxUint64 - 3: api.ErrBus, 1 << 32: api.ErrBus} {
			if v, e := m.Word(pa); v != 0 || e != want {
				t.Errorf("Word(%#x) %#x %v", pa, v, e)
			}
		}
		for frame, want := range map[int]uint32{7: 0x11223344, 0: 0, 255: 0} {
			b, e := m.Frame(frame)
			if e != api.OK || len(b) != 4096 {
				t.Fatalf("Frame(%d): %d bytes, %v", frame, len(b), e)
			}
			if v, _ := row(b).Word(0); v != want {
				t.Errorf("Frame(%d) begins with %#x", frame, v)
			}
		}
		if b, _ := m.Frame(255); b[4092] != 7 {
			t.Error(b[4092])
		}
		for _, frame := range []int{-1, 256, 257, math.MinInt, math.MaxInt, 1 << 52, 1<<52 + 7} {
			if b, e := m.Frame(frame); len(b) != 0 || e != api.ErrBus {
				t.Errorf("Frame(%d): %d bytes, %v", frame, len(b), e)
			}
		}
		for reg, want := range map[int]uint32{api.RegSCTLR: 1, api.RegTTBR0: 0x4000, api.RegDACR: 5, api.RegContext: 7, api.RegPRRR: 0x00098aa4, -1: 0, 13: 0, math.MinInt: 0, math.MaxInt: 0} {
			if v := m.Reg(reg); v != want {
				t.Errorf("Reg(%d) %#x", reg, v)
			}
		}
		c := api.Context{On: true, Base0: 0x4000, DACR: 5, PRRR: 0x00098aa4, NMRR: 0x44e048e0, Asid: 7}
		if m.Context() != c || m.Frames() != 256 {
			t.Errorf("%+v", m.Context())
		}
		if j, ok := m.Judge(7); j != c || !ok {
			t.Errorf("%+v %v", j, ok)
		}
		c.Asid = 0
		if j, ok := m.Judge(0); j != c || !ok {
			t.Errorf("%+v %v", j, ok)
		}
		for _, asid := range []int{-1, 1, 256, math.MaxInt} {
			if j, ok := m.Judge(asid); j != (api.Context{}) || ok {
				t.Errorf("%+v %v", j, ok)
			}
		}
		if l := m.Known(); !slices.Equal(l, []api.Block{global, other, page}) || len(m.Dirty()) != 0 || m.Stale(7, 0x1000) {
			t.Errorf("%+v", l)
		}
		if m.Left() != before || len(m.Events()) != 0 {
			t.Error("a look was a step")
		}
	}

	// The looks are over the memory as it stands.
	must(t, m.Poke(0xc004, 0))
	if l := m.Dirty(); !slices.Equal(l, []api.Dirt{{Asid: 0, Block: other}, {Asid: 7, Block: page}}) {
		t.Errorf("%+v", l)
	}
	for va, want := range map[uint32]bool{0xfff: false, 0x1000: true, 0x1fff: true, 0x2000: false} {
		if m.Stale(7, va) != want || m.Stale(0, va) != want || m.Stale(1, va) || m.Stale(-1, va) {
			t.Errorf("%#x", va)
		}
	}
	must(t, m.Poke(0xc004, 0x783e))
	if l := m.Dirty(); len(l) != 0 || m.Stale(7, 0x1000) {
		t.Errorf("%+v", l)
	}
}

// TestEvents: P1308, and how many are kept.
func TestEvents(t *testing.T) {
	t.Parallel()
	m := made(t, small)
	for round, n := range []int{65535, 65536, 65537, 65600, 3, 0} {
		for i := range n {
			answers(t, m, load(uint32(4*i)%4096, 4), value(0))
		}
		l := m.Events()
		if len(l) != min(n, 65536) {
			t.Fatalf("the round %d: %d events of %d", round, len(l), n)
		}
		for i, e := range l {
			if e != (api.Event{Kind: api.EvAccess, Addr: uint64(4*i) % 4096}) {
				t.Fatalf("the round %d: the event %d: %+v", round, i, e)
			}
		}
		if again := m.Events(); len(again) != 0 {
			t.Fatalf("%d events", len(again))
		}
	}
}

// TestEventOfEachStep: which event each step leaves, with how many dirts.
func TestEventOfEachStep(t *testing.T) {
	b := newBoth(t, small)
	steps := func() {
		b.poke(0x4000, 0xc021)
		b.poke(0xc004, 0x783e)
		b.mcr(ttbr0, 0x4000, false)
		b.mcr(dacr, 5, false)
		b.do(load(0xfff00000, 4)) // not On: no memory there
		b.mcr(sctlr, 1, false)
		b.mcr(context, 0x307, false)
		b.do(store(0x1000, 4, 0x99))
		b.poke(0xc004, 0x883e)                                   // its block, of the ASIDs 0 and 7
		b.do(load(0x1000, 1))                                    // by the old block
		b.mcr(api.Tuple{CRn: 7, CRm: 8, Op2: 3}, 0x1fff, false)  // the same, asked for
		b.mcr(api.Tuple{CRn: 7, CRm: 10, Op2: 5}, 0xab, true)    // a barrier
		b.mcr(api.Tuple{CRn: 10, CRm: 2}, 0x12345678, false)     // PRRR
		b.mcr(api.Tuple{CRn: 6, Op2: 2}, 0x12345678, false)      // IFAR
		b.mcr(api.Tuple{CRn: 8, CRm: 7, Op2: 1}, 0x1007, false)  // the old one, and the new one, of the ASID 7
		b.mcr(api.Tuple{CRn: 8, CRm: 7, Op2: 2}, 0xfff00, false) // those of the ASID 0
		b.wipe(12, 1)
		b.fill(12, make([]byte, 4096))
		b.copy(3, 12, 2)
		b.mcr(api.Tuple{CRn: 8, CRm: 7, Op2: 3}, 0x1fff, false)
		b.mcr(api.Tuple{CRn: 8, CRm: 7}, 0xffff, false)
	}
	want := []api.Event{
		{Kind: api.EvPoke, Addr: 0x4000, Value: 0xc021},
		{Kind: api.EvPoke, Addr: 0xc004, Value: 0x783e},
		{Kind: api.EvReg, Addr: 0x2000, Value: 0x4000},
		{Kind: api.EvReg, Addr: 0x3000, Value: 5},
		{Kind: api.EvAccess, Addr: 0xfff00000, Value: 1},
		{Kind: api.EvReg, Addr: 0x1000, Value: 1},
		{Kind: api.EvReg, Addr: 0xd001, Value: 0x307},
		{Kind: api.EvAccess, Addr: 0x1000},
		{Kind: api.EvPoke, Addr: 0xc004, Value: 0x883e, Dirty: 2},
		{Kind: api.EvAccess, Addr: 0x1000, Dirty: 2},
		{Kind: api.EvAt, Addr: 0x1000, Value: 0x7000 | 0x7c, Dirty: 2},
		{Kind: api.EvReg, Addr: 0x70a5, Value: 0xab, Dirty: 2},
		{Kind: api.EvReg, Addr: 0xa020, Value: 0x12345678, Dirty: 2},
		{Kind: api.EvReg, Addr: 0x6002, Value: 0x12345678, Dirty: 2},
		{Kind: api.EvDrop, Addr: api.TlbiMva, Value: 0x1007, Dirty: 1},
		{Kind: api.EvDrop, Addr: api.TlbiAsid, Value: 0, Dirty: 0},
		{Kind: api.EvWipe, Addr: 12, Value: 1, Dirty: 1},
		{Kind: api.EvFill, Addr: 12, Value: 1, Dirty: 1},
		{Kind: api.EvCopy, Addr: 12, Value: 2, Dirty: 1},
		{Kind: api.EvDrop, Addr: api.TlbiMvaa, Value: 0x1000},
		{Kind: api.EvDrop, Addr: api.TlbiAll},
	}
	steps()
	got := b.sameEvents("each step")
	for i := range max(len(got), len(want)) {
		if i >= len(got) || i >= len(want) || got[i] != want[i] {
			t.Fatalf("from the event %d on:\n%+v, not\n%+v", i, got[i:], want[i:])
		}
	}
}

// TestHandedOut: rule 4: nobody sees what the caller writes into a list, and no later step changes it.
func TestHandedOut(t *testing.T) {
	b := newBoth(t, small)
	b.poke(0x4000, 0xc021)
	b.poke(0xc004, 0x783e)
	b.poke(0xc008, 0x803e)
	b.poke(0x7000, 0x77)
	b.mcr(ttbr0, 0x4000, false)
	b.mcr(dacr, 5, false)
	b.mcr(sctlr, 1, false)
	b.do(load(0x1000, 4))
	b.do(fetch(0x2000, 4))
	b.poke(0xc004, 0)
	for range 3 {
		held := []func() bool{}
		held = append(held, hold(b.m.Dirty()), hold(b.m.Known()), hold(b.m.Events()))
		for which := range 4 {
			held = append(held, hold(b.m.Places(which)))
		}
		frame, _ := b.m.Frame(7)
		held = append(held, hold(frame))
		b.o.Events()

		spoil(b.m.Dirty(), api.Dirt{Asid: 9})
		spoil(b.m.Known(), api.Block{Asid: 9})
		spoil(b.m.Events(), api.Event{Kind: 9})
		for which := range 4 {
			spoil(b.m.Places(which), api.Slot{Full: true, Block: api.Block{Asid: 9}})
		}
		frame, _ = b.m.Frame(7)
		spoil(frame, 0x99)
		b.same("spoilt")
		b.sameBytes("spoilt")

		b.noise(api.Noise{Act: api.NEvict, Which: api.TlbD}, api.Noise{Act: api.NEvict, Which: api.TlbMain}, api.Noise{Act: api.NEvict, Which: api.TlbI})
		b.poke(0x7000, 0x78)
		b.do(load(0x1000, 4))
		b.do(fetch(0x3000, 4))
		b.poke(0xc00c, 0x783e)
		events := b.sameEvents("a part of them")
		held = append(held, hold(events))
		spoil(events, api.Event{Kind: 9})
		b.mcr(api.Tuple{CRn: 8, CRm: 7}, 0, false)
		b.do(load(0x3000, 4))
		b.do(store(0x3000, 4, 0x79))
		b.poke(0xc00c, 0)
		b.same("behind")
		b.sameBytes("behind")
		b.sameEvents("behind")
		for i, same := range held[:len(held)-1] {
			if !same() {
				t.Errorf("the list %d has changed", i)
			}
		}
	}
}

// hold: whether a list is later as it is now.
func hold[T comparable](l []T) func() bool {
	now := slices.Clone(l)
	return func() bool { return slices.Equal(l, now) }
}

// spoil: a list is written over, its spare room too.
func spoil[T any](l []T, with T) {
	l = l[:cap(l)]
	for i := range l {
		l[i] = with
	}
}

// TestHandedIn: rule 4: what is handed in is not changed, nor kept.
func TestHandedIn(t *testing.T) {
	m := on(t, small, 5, map[uint64]uint32{0x4000: 0xc021, 0xc004: 0x783e})
	answers(t, m, load(0x1000, 4), value(0))
	for round := range 3 {
		l := append(make([]api.Noise, 0, 8), api.Noise{Act: api.NFill, VA: 0x1000, Fetch: true}, api.Noise{Act: api.NEvict, Which: api.TlbI})
		room := l[:8]
		for i := 2; i < 8; i++ {
			room[i] = api.Noise{Act: 77, Slot: round}
		}
		was := slices.Clone(room)
		must(t, m.Noise(l), m.Noise(l))
		if !slices.Equal(room, was) {
			t.Errorf("Noise changed %+v", room)
		}
		spoil(l, api.Noise{Act: api.NEvict, Which: api.TlbMain})
		for i := range 4 {
			must(t, m.Poke(0x9000, 1))
			if full := m.Places(api.TlbI)[0].Full; full != (i%2 == 0) || !m.Places(api.TlbMain)[0].Full {
				t.Errorf("behind the step %d: %+v", i, m.Places(api.TlbI))
			}
		}

		b := make([]byte, 4096, 8192)
		for i := range b {
			b[i] = byte(i*7 + round + 1)
		}
		whole := b[:8192]
		bytes := slices.Clone(whole)
		must(t, m.Fill(20, b))
		if !slices.Equal(whole, bytes) {
			t.Error("Fill changed what it was handed")
		}
		spoil(b, 0xee)
		must(t, m.Poke(0x16000, 1))
		if got, e := m.Frame(20); !slices.Equal(got, bytes[:4096]) || e != api.OK {
			t.Error("the frame is not what was handed in", e)
		}
		if v, _ := m.Word(21 * 4096); v != 0 {
			t.Errorf("%#x stands behind the frame", v)
		}
	}
}

// TestApart: rule 5: two machines share nothing.
func TestApart(t *testing.T) {
	x := on(t, small, 5, map[uint64]uint32{0x4000: 0xc02})
	y := made(t, small)
	answers(t, x, store(8, 4, 7), value(0))
	must(t, x.Noise(make([]api.Noise, 2)))
	if v, _ := y.Word(8); v != 0 || y.Left() != 0 || y.Context().On || len(y.Known()) != 0 || y.Places(api.TlbMain)[0].Full || len(y.Events()) != 0 {
		t.Error("a machine has what another one was given")
	}
}
