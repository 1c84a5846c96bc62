package machine_test

import (
	"math"
	"slices"
	"testing"

	"atlas/api"
	"atlas/machine"
)

// TestNoiseThatWaits: P1306.
func TestNoiseThatWaits(t *testing.T) {
	for _, parts := range [][]int{
		{0}, {1}, {4095}, {4096}, {4097}, {8192}, {4096, 0}, {4096, 1}, {4095, 1}, {4095, 2, 1, 1}, {0, 0, 4096, 4096}, {2048, 2048, 1}, {2049, 2048, 2047},
	} {
		m := made(t, small)
		left := 0
		for _, n := range parts {
			want := api.OK
			if left+n > 4096 {
				want = api.ErrArg
			} else {
				left += n
			}
			if e := m.Noise(make([]api.Noise, n)); e != want || m.Left() != left {
				t.Fatalf("%v: %d: %v, %d left", parts, n, e, m.Left())
			}
		}
	}
	m := made(t, small)
	must(t, m.Noise(nil), m.Noise(make([]api.Noise, 4096)), m.Noise(nil))
	for i := range 10 {
		must(t, m.Poke(0, 1))
		if e := m.Noise(make([]api.Noise, 2)); e != api.ErrArg || m.Left() != 4095 {
			t.Fatal(i, e, m.Left())
		}
		if e := m.Noise(make([]api.Noise, 1)); e != api.OK || m.Left() != 4096 {
			t.Fatal(i, e, m.Left())
		}
	}
}

// TestNoiseIsTaken: one a step, in its order, and by no call that is no step.
func TestNoiseIsTaken(t *testing.T) {
	b := newBoth(t, small)
	l := make([]api.Noise, 100)
	b.noise(l...)
	left := 100
	steps := []func(){
		func() { b.do(load(0, 4)) },
		func() { b.do(load(2, 4)) },                                         // with a fault
		func() { b.do(load(0x100000, 4)) },                                  // likewise
		func() { b.do(store(0, 1, 1)) },                                     //
		func() { b.do(fetch(0, 2)) },                                        //
		func() { b.poke(0, 1) },                                             //
		func() { b.wipe(1, 2) },                                             //
		func() { b.copy(1, 1, 1) },                                          //
		func() { b.fill(1, make([]byte, 4096)) },                            //
		func() { b.mcr(dacr, 0, false) },                                    //
		func() { b.mcr(api.Tuple{CRn: 7, CRm: 4}, 0, false) },               // PAR
		func() { b.mcr(api.Tuple{CRn: 7, CRm: 10, Op2: 4}, 0, true) },       // a barrier
		func() { b.mcr(api.Tuple{CRn: 8, CRm: 7}, 0, false) },               // a dropping
		func() { b.mcr(api.Tuple{CRn: 7, CRm: 8, Op2: 1}, 0x1000, false) },  // a translation
		func() { b.mcr(api.Tuple{CRn: 8, CRm: 6, Op2: 1}, 0x1000, false) },  //
		func() { b.mcr(api.Tuple{CRn: 8, CRm: 5, Op2: 2}, 0x1000, false) },  //
		func() { b.mcr(api.Tuple{CRn: 13, Op2: 1}, 0xffff, false) },         //
		func() { b.mcr(api.Tuple{CRn: 7, CRm: 8, Op2: 2}, 1<<31-1, false) }, //
	}
	none := []func(){
		func() { b.do(load(0, 3)) },
		func() { b.do(load(2, 0)) },
		func() { b.do(api.Access{Kind: 4, Bytes: 4}) },
		func() { b.poke(2, 1) },
		func() { b.poke(0x100000, 1) },
		func() { b.wipe(1, 0) },
		func() { b.wipe(256, 1) },
		func() { b.copy(1, 1, 0) },
		func() { b.copy(1, 256, 1) },
		func() { b.fill(1, nil) },
		func() { b.fill(256, make([]byte, 4096)) },
		func() { b.mcr(dacr, 0, true) },
		func() { b.mcr(api.Tuple{CRn: 15}, 0, false) },
		func() { b.mcr(api.Tuple{CRn: 8, CRm: 7}, 0, true) },
		func() { b.m.Mrc(dacr, false) },
		func() { b.m.Mrc(dacr, true) },
		func() { b.m.Word(0) },
		func() { b.m.Frame(0) },
		func() { b.m.Reg(0); b.m.Frames(); b.m.Context(); b.m.Left() },
		func() { b.m.Places(1); b.m.Stale(0, 0); b.m.Dirty(); b.m.Known(); b.m.Judge(0) },
	}
	for i, call := range none {
		call()
		if b.m.Left() != left || len(b.m.Events()) != 0 {
			t.Errorf("the call %d was a step", i)
		}
	}
	for i, call := range steps {
		call()
		left--
		if b.m.Left() != left || len(b.m.Events()) != 1 {
			t.Errorf("the step %d was none", i)
		}
	}
	b.o.Events()
	b.same("behind all")
	b.sameBytes("behind all")
}

// filled: which places of a TLB have a block.
func filled(m *machine.Machine, which int) []bool {
	var l []bool
	for _, s := range m.Places(which) {
		l = append(l, s.Full)
	}
	return l
}

// fourPages: a machine whose pages 0 to 3 stand at 0x10000 to 0x13000 (domain 0, not global), each with its number in its first word.
func fourPages(t *testing.T, c api.Config) *machine.Machine {
	return on(t, c, 1, map[uint64]uint32{
		0x4000: 0xc001, 0xc000: 0x1083e, 0xc004: 0x1183e, 0xc008: 0x1283e, 0xc00c: 0x1383e,
		0x10000: 10, 0x11000: 11, 0x12000: 12, 0x13000: 13,
	})
}

// TestEvict: NEvict of each TLB, at its places and beyond them, with the context On and not On.
func TestEvict(t *testing.T) {
	for _, off := range []bool{false, true} {
		m := fourPages(t, api.Config{Frames: 256, I: 1, D: 2, Main: 3})
		answers(t, m, load(0x0000, 4), value(10))
		answers(t, m, load(0x1000, 4), value(11))
		answers(t, m, fetch(0x2000, 4), value(12))
		if off {
			must(t, m.Mcr(sctlr, 0, false))
		}
		full := map[int][]bool{api.TlbI: {true}, api.TlbD: {true, true}, api.TlbMain: {true, true, true}}
		check := func(what any) {
			t.Helper()
			for which, want := range full {
				if got := filled(m, which); !slices.Equal(got, want) {
					t.Fatalf("%v: the TLB %d: %v, not %v", what, which, got, want)
				}
			}
		}
		check("all")
		for _, n := range [][2]int{{0, 0}, {4, 0}, {-1, 0}, {math.MaxInt, 0}, {1, 1}, {2, 2}, {3, 3}, {1, -1}, {2, -1}, {3, math.MinInt}, {3, math.MaxInt}, {2, 64}} {
			must(t, m.Noise([]api.Noise{{Act: api.NEvict, Which: n[0], Slot: n[1]}}), m.Poke(0x9000, 1))
			check(n)
		}
		for _, n := range [][2]int{{3, 1}, {2, 0}, {1, 0}, {3, 2}, {2, 1}, {3, 0}} {
			must(t, m.Noise([]api.Noise{{Act: api.NEvict, Which: n[0], Slot: n[1], VA: 0x3000, Fetch: true}}), m.Poke(0x9000, 1))
			full[n[0]][n[1]] = false
			check(n)
		}
	}
}

// TestFill: NFill, with the context On and not On, of what is found and what is not.
func TestFill(t *testing.T) {
	c := api.Config{Frames: 256, I: 2, D: 2, Main: 4}
	page := func(n uint32) api.Slot {
		return api.Slot{Full: true, Block: api.Block{Asid: 0, Trans: api.Trans{Size: api.Small, VA: n << 12, PA: 0x10000 + uint64(n)<<12, Leaf: api.Leaf{AP: 3, Bits: 6, NG: true}}}}
	}
	is := func(m *machine.Machine, i, d, main []api.Slot) {
		t.Helper()
		for which, want := range map[int][]api.Slot{api.TlbI: i, api.TlbD: d, api.TlbMain: main} {
			if got := m.Places(which); !slices.Equal(got[:len(want)], want) || slices.ContainsFunc(got[len(want):], func(s api.Slot) bool { return s.Full }) {
				t.Fatalf("the TLB %d: %+v, not %+v", which, got, want)
			}
		}
	}
	fill := func(m *machine.Machine, n api.Noise) {
		t.Helper()
		must(t, m.Noise([]api.Noise{n}), m.Poke(0x9000, 1))
	}
	m := fourPages(t, c)
	fill(m, api.Noise{Act: api.NFill, VA: 0x1fff})
	is(m, nil, []api.Slot{page(1)}, []api.Slot{page(1)})
	fill(m, api.Noise{Act: api.NFill, VA: 0x1000, Fetch: true}) // from the main one
	is(m, []api.Slot{page(1)}, []api.Slot{page(1)}, []api.Slot{page(1)})
	fill(m, api.Noise{Act: api.NFill, VA: 0x2800, Fetch: true, Which: api.TlbD, Slot: 1})
	is(m, []api.Slot{page(1), page(2)}, []api.Slot{page(1)}, []api.Slot{page(1), page(2)})
	fill(m, api.Noise{Act: api.NFill, VA: 0x3000, Fetch: true, Pick: 3}) // I is full: its place 3 % 2
	is(m, []api.Slot{page(1), page(3)}, []api.Slot{page(1)}, []api.Slot{page(1), page(2), page(3)})
	fill(m, api.Noise{Act: api.NFill, VA: 0x4000})   // FTrans2
	fill(m, api.Noise{Act: api.NFill, VA: 0x100000}) // FTrans1
	fill(m, api.Noise{Act: 3, VA: 0})                // no Act
	fill(m, api.Noise{Act: -2, VA: 0})
	fill(m, api.Noise{Act: math.MaxInt, VA: 0})
	fill(m, api.Noise{VA: 0})
	is(m, []api.Slot{page(1), page(3)}, []api.Slot{page(1)}, []api.Slot{page(1), page(2), page(3)})
	for _, reg := range []int{api.RegDFSR, api.RegDFAR, api.RegIFSR, api.RegIFAR, api.RegPAR} {
		if m.Reg(reg) != 0 {
			t.Errorf("a fault of the outer world is told: Reg(%d) %#x", reg, m.Reg(reg))
		}
	}

	// Nothing, where the context is not On; and the context that counts is the one ahead of the step.
	m = fourPages(t, c)
	must(t, m.Noise([]api.Noise{{Act: api.NFill, VA: 0x1000}, {Act: api.NFill, VA: 0x2000}, {Act: api.NFill, VA: 0x3000}}))
	must(t, m.Mcr(sctlr, 0, false))
	is(m, nil, []api.Slot{page(1)}, []api.Slot{page(1)})
	must(t, m.Poke(0x9000, 1))
	is(m, nil, []api.Slot{page(1)}, []api.Slot{page(1)})
	must(t, m.Mcr(sctlr, 1, false))
	is(m, nil, []api.Slot{page(1)}, []api.Slot{page(1)})
	must(t, m.Noise([]api.Noise{{Act: api.NFill, VA: 0x2000}}), m.Mcr(context, 5, false))
	is(m, nil, []api.Slot{page(1), page(2)}, []api.Slot{page(1), page(2)})
	must(t, m.Noise([]api.Noise{{Act: api.NFill, VA: 0x2000, Pick: 1}}), m.Mcr(context, 0, false))
	of5 := page(2)
	of5.Block.Asid = 5
	is(m, nil, []api.Slot{page(1), of5}, []api.Slot{page(1), page(2), of5})

	// The noise is ahead of what the call says: of a word, of a dropping.
	m = fourPages(t, c)
	must(t, m.Noise([]api.Noise{{Act: api.NFill, VA: 0x1000}}), m.Poke(0xc004, 0))
	is(m, nil, []api.Slot{page(1)}, []api.Slot{page(1)})
	if !m.Stale(0, 0x1000) || len(m.Dirty()) != 1 {
		t.Error("what was fetched ahead of the word is not known")
	}
	must(t, m.Noise([]api.Noise{{Act: api.NFill, VA: 0x2000}}), m.Mcr(api.Tuple{CRn: 8, CRm: 7}, 0, false))
	is(m, nil, nil, nil)
	must(t, m.Noise([]api.Noise{{Act: api.NFill, VA: 0x3000}}))
	answers(t, m, fetch(0x3000, 4), value(13))
	is(m, []api.Slot{page(3)}, []api.Slot{page(3)}, []api.Slot{page(3)})

	// What an access of that kind may do is not asked.
	must(t, m.Mcr(dacr, 0, false), m.Noise([]api.Noise{{Act: api.NFill, VA: 0x2000, Fetch: true}}), m.Poke(0x9000, 1))
	is(m, []api.Slot{page(3), page(2)}, []api.Slot{page(3)}, []api.Slot{page(3), page(2)})
}

// TestPick: in a step the place that a full TLB gives up is the noise's.
func TestPick(t *testing.T) {
	for pick, place := range map[int]int{0: 0, 1: 1, 2: 0, 7: 1, -1: 1, -2: 0, math.MaxInt: 1, math.MinInt: 0} {
		m := fourPages(t, small)
		answers(t, m, load(0x0000, 4), value(10))
		answers(t, m, load(0x1000, 4), value(11))
		must(t, m.Noise([]api.Noise{{Pick: pick}}))
		answers(t, m, load(0x2000, 4), value(12))
		for _, which := range []int{api.TlbD, api.TlbMain} {
			if l := m.Places(which); l[place].Block.Trans.VA != 0x2000 || l[1-place].Block.Trans.VA != uint32(1-place)<<12 {
				t.Errorf("%d: the TLB %d: %+v", pick, which, l)
			}
		}
		// Without noise: the place 0; in a translation that is asked for as in an access.
		must(t, m.Mcr(api.Tuple{CRn: 7, CRm: 8}, 0x3000, false))
		if l := m.Places(api.TlbMain); l[0].Block.Trans.VA != 0x3000 {
			t.Errorf("%+v", l)
		}
		must(t, m.Noise([]api.Noise{{Pick: 1, Act: 9}}), m.Mcr(api.Tuple{CRn: 7, CRm: 8, Op2: 3}, 0x0000, false))
		if l := m.Places(api.TlbMain); l[1].Block.Trans.VA != 0 || !l[1].Full {
			t.Errorf("%+v", l)
		}
	}
}

// conflicting: a machine whose main TLB has two blocks at 0x1000, while D has one of them, the page at 0x7000; the word there is 7, at 0x1000 it is 9.
func conflicting(t *testing.T) *machine.Machine {
	m := on(t, api.Config{Frames: 256, I: 1, D: 1, Main: 4}, 1, map[uint64]uint32{0x4000: 0xc001, 0xc004: 0x7032, 0x7000: 7, 0x1000: 9})
	answers(t, m, load(0x1000, 4), value(7))
	must(t, m.Poke(0x4000, 0xc02))
	answers(t, m, fetch(0x2000, 4), value(0)) // the section goes into the main one and into I
	return m
}

// TestConflict: two blocks that match, with the small one asked first, and the main one.
func TestConflict(t *testing.T) {
	m := conflicting(t)
	answers(t, m, load(0x1000, 4), value(7))
	if m.Reg(api.RegDFSR) != 0 {
		t.Errorf("%#x", m.Reg(api.RegDFSR))
	}
	answers(t, m, fetch(0x1000, 4), value(9))
	must(t, m.Noise([]api.Noise{{MainFirst: true}, {MainFirst: true}, {MainFirst: true}, {}}))
	answers(t, m, load(0x1000, 4), fault(api.FConflict))
	if m.Reg(api.RegDFSR) != 0x400 || m.Reg(api.RegDFAR) != 0x1000 {
		t.Errorf("%#x %#x", m.Reg(api.RegDFSR), m.Reg(api.RegDFAR))
	}
	answers(t, m, store(0x1004, 4, 1), fault(api.FConflict))
	if m.Reg(api.RegDFSR) != 0xc00 || m.Reg(api.RegDFAR) != 0x1004 {
		t.Errorf("%#x %#x", m.Reg(api.RegDFSR), m.Reg(api.RegDFAR))
	}
	answers(t, m, fetch(0x1008, 4), fault(api.FConflict))
	if m.Reg(api.RegIFSR) != 0x400 || m.Reg(api.RegIFAR) != 0x1008 {
		t.Errorf("%#x %#x", m.Reg(api.RegIFSR), m.Reg(api.RegIFAR))
	}
	answers(t, m, load(0x1000, 4), value(7))
	must(t, m.Noise([]api.Noise{{MainFirst: true}}), m.Mcr(api.Tuple{CRn: 7, CRm: 8}, 0x1000, false))
	if m.Reg(api.RegPAR) != 1+2*16 {
		t.Errorf("%#x", m.Reg(api.RegPAR))
	}
	// The outer world's own is nobody's: the small one, emptied ahead of it, stays so.
	must(t, m.Noise([]api.Noise{{Act: api.NEvict, Which: api.TlbD}, {Act: api.NFill, VA: 0x1000}}), m.Poke(0x9000, 1), m.Poke(0x9000, 1))
	if m.Places(api.TlbD)[0].Full || m.Reg(api.RegDFAR) != 0x1004 {
		t.Errorf("%+v", m.Places(api.TlbD))
	}
	answers(t, m, load(0x1000, 4), fault(api.FConflict))
	must(t, m.Mcr(api.Tuple{CRn: 8, CRm: 7, Op2: 1}, 0x1000, false))
	answers(t, m, load(0x1000, 4), value(9))
}

// TestFoundInASmallOne: what D has still is found, while the tables have changed; it ends by an eviction, or by a dropping.
func TestFoundInASmallOne(t *testing.T) {
	for _, end := range []func(m *machine.Machine) api.Errno{
		func(m *machine.Machine) api.Errno { return m.Noise([]api.Noise{{Act: api.NEvict, Which: api.TlbD}}) },
		func(m *machine.Machine) api.Errno { return m.Mcr(api.Tuple{CRn: 8, CRm: 7, Op2: 1}, 0x1000, false) },
		func(m *machine.Machine) api.Errno { return m.Mcr(api.Tuple{CRn: 8, CRm: 3, Op2: 2}, 0, false) },
		func(m *machine.Machine) api.Errno { return m.Mcr(api.Tuple{CRn: 8, CRm: 7, Op2: 3}, 0x1000, false) },
		func(m *machine.Machine) api.Errno { return m.Mcr(api.Tuple{CRn: 8, CRm: 5}, 0, false) },
	} {
		m := fourPages(t, small)
		answers(t, m, load(0x1000, 4), value(11))
		must(t, m.Poke(0xc004, 0x1283e), m.Noise([]api.Noise{{Act: api.NEvict, Which: api.TlbMain}}))
		for range 3 {
			answers(t, m, load(0x1000, 4), value(11))
			answers(t, m, store(0x1004, 4, 0x44), value(0))
		}
		if v, _ := m.Word(0x11004); v != 0x44 || !m.Stale(0, 0x1000) {
			t.Errorf("%#x", v)
		}
		must(t, end(m))
		answers(t, m, load(0x1000, 4), value(12))
		answers(t, m, load(0x1004, 4), value(0))
	}
}
