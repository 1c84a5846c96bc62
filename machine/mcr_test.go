package machine_test

import (
	"fmt"
	"math"
	"math/rand"
	"slices"
	"testing"

	"atlas/api"
	"atlas/attr"
	"atlas/machine"
)

// registers: their tuples and kept bits (chapter 8).
var registers = map[int]struct {
	tuple api.Tuple
	kept  uint32
}{
	api.RegSCTLR: {api.Tuple{CRn: 1}, 0x30000001}, api.RegTTBR0: {api.Tuple{CRn: 2}, 0xffffff80}, api.RegTTBR1: {api.Tuple{CRn: 2, Op2: 1}, 0xffffc000}, api.RegTTBCR: {api.Tuple{CRn: 2, Op2: 2}, 0x37},
	api.RegDACR: {api.Tuple{CRn: 3}, math.MaxUint32}, api.RegDFSR: {api.Tuple{CRn: 5}, 0x1cff}, api.RegIFSR: {api.Tuple{CRn: 5, Op2: 1}, 0x140f}, api.RegDFAR: {api.Tuple{CRn: 6}, math.MaxUint32}, api.RegIFAR: {api.Tuple{CRn: 6, Op2: 2}, math.MaxUint32},
	api.RegPAR: {api.Tuple{CRn: 7, CRm: 4}, math.MaxUint32}, api.RegPRRR: {api.Tuple{CRn: 10, CRm: 2}, 0xff0fffff}, api.RegNMRR: {api.Tuple{CRn: 10, CRm: 2, Op2: 1}, math.MaxUint32}, api.RegContext: {api.Tuple{CRn: 13, Op2: 1}, math.MaxUint32},
}

// TestRegisters: P1304 and P1305 of each register, by a user and privileged.
func TestRegisters(t *testing.T) {
	for reg, r := range registers {
		m := made(t, small)
		before := m.Reg(reg)
		must(t, m.Noise(make([]api.Noise, 9)))
		if e := m.Mcr(r.tuple, 0xffffffff, true); e != api.ErrPriv || m.Reg(reg) != before {
			t.Errorf("%d: %v", reg, e)
		}
		if v, e := m.Mrc(r.tuple, true); v != 0 || e != api.ErrPriv {
			t.Errorf("%d: %#x %v", reg, v, e)
		}
		if v, e := m.Mrc(r.tuple, false); v != before || e != api.OK {
			t.Errorf("%d: %#x %v", reg, v, e)
		}
		if m.Left() != 9 || len(m.Events()) != 0 {
			t.Errorf("%d: a read, or a refusal, was a step", reg)
		}
		for _, v := range []uint32{0xffffffff, 0, 0xa5a5a5a5, 0x5a5a5a5a} {
			others := [api.Registers]uint32{}
			for i := range others {
				others[i] = m.Reg(i)
			}
			must(t, m.Mcr(r.tuple, v, false))
			others[reg] = v & r.kept
			for i, want := range others {
				if m.Reg(i) != want {
					t.Errorf("%d: %#x: Reg(%d) %#x", reg, v, i, m.Reg(i))
				}
			}
			if got, e := m.Mrc(r.tuple, false); got != v&r.kept || e != api.OK {
				t.Errorf("%d: %#x %v", reg, got, e)
			}
			number := uint64(r.tuple.CRn*4096 + r.tuple.Op1*256 + r.tuple.CRm*16 + r.tuple.Op2)
			if l := m.Events(); !slices.Equal(l, []api.Event{{Kind: api.EvReg, Addr: number, Value: v}}) {
				t.Errorf("%d: %+v", reg, l)
			}
		}
		if m.Left() != 5 {
			t.Errorf("%d: %d left", reg, m.Left())
		}
	}
}

// TestTuples: each tuple near those of an instruction: just what chapter 8 says of it, and what is refused is no step.
func TestTuples(t *testing.T) {
	m := made(t, small)
	written, dropped, asked, barriers := 0, 0, 0, 0
	for crn := -1; crn <= 16; crn++ {
		for op1 := -1; op1 <= 8; op1++ {
			for crm := -1; crm <= 16; crm++ {
				for op2 := -1; op2 <= 8; op2++ {
					tuple := api.Tuple{CRn: crn, Op1: op1, CRm: crm, Op2: op2}
					user, priv := m.Mcr(tuple, 0, true), m.Mcr(tuple, 0, false)
					l := m.Events()
					steps := 0
					if user == api.OK {
						steps++
					}
					if priv == api.OK {
						steps++
					}
					if len(l) != steps {
						t.Fatalf("%+v: %v %v: %+v", tuple, user, priv, l)
					}
					switch {
					case user == api.OK && priv == api.OK:
						barriers++
					case user == api.ErrPriv && priv == api.OK && l[0].Kind == api.EvReg:
						written++
					case user == api.ErrPriv && priv == api.OK && l[0].Kind == api.EvDrop:
						dropped++
					case user == api.ErrPriv && priv == api.OK && l[0].Kind == api.EvAt:
						asked++
					case user != api.ErrUndef || priv != api.ErrUndef:
						t.Errorf("%+v: %v %v", tuple, user, priv)
					}
				}
			}
		}
	}
	if written != 13 || dropped != 14 || asked != 4 || barriers != 3 {
		t.Errorf("%d registers, %d droppings, %d translations, %d barriers", written, dropped, asked, barriers)
	}
	for _, tuple := range []api.Tuple{{CRn: math.MaxInt}, {CRn: math.MinInt, CRm: 7}, {CRn: 8, CRm: math.MaxInt}, {CRn: 1, Op1: 1 << 32}, {CRn: 7, CRm: 8, Op2: 4}} {
		if e := m.Mcr(tuple, 0, false); e != api.ErrUndef {
			t.Errorf("%+v: %v", tuple, e)
		}
		if v, e := m.Mrc(tuple, false); v != 0 || e != api.ErrUndef {
			t.Errorf("%+v: %v", tuple, e)
		}
	}
	for _, tuple := range []api.Tuple{{CRn: 8, CRm: 7}, {CRn: 7, CRm: 8}, {CRn: 7, CRm: 10, Op2: 5}} {
		if v, e := m.Mrc(tuple, false); v != 0 || e != api.ErrUndef {
			t.Errorf("%+v: %v", tuple, e)
		}
	}
}

// TestDrops: each operation that drops: what is left in the TLBs and known, and its event.
func TestDrops(t *testing.T) {
	for _, crm := range []int{3, 5, 6, 7} {
		for op2, words := range [][]uint32{{0, 0xffffffff}, {0x1003, 0x1004, 0x2003, 0x2000, 0x3003, 0x1fff}, {3, 4, 0, 0xffffff03}, {0x1003, 0x1000, 0x2fff, 0x3000}} {
			if op2 == 3 && (crm == 5 || crm == 6) {
				continue
			}
			for _, word := range words {
				b := newBoth(t, api.Config{Frames: 256, I: 2, D: 4, Main: 8})
				b.poke(0x4000, 0xc021)
				b.poke(0xc004, 0x1083e) // the page 1, not global
				b.poke(0xc008, 0x1103e) // the page 2, global
				b.mcr(ttbr0, rootA, false)
				b.mcr(dacr, 5, false)
				b.mcr(context, 3, false)
				b.mcr(sctlr, 1, false)
				b.do(load(0x1000, 4))
				b.do(fetch(0x2000, 4))
				b.mcr(context, 4, false)
				b.do(load(0x1000, 4))
				b.do(load(0x2000, 4))
				b.poke(0xc004, 0)
				b.poke(0xc008, 0)
				b.sameEvents("laid")
				b.mcr(api.Tuple{CRn: 8, CRm: crm, Op2: op2}, word, false)
				b.same([]any{crm, op2, word})
				l := b.sameEvents([]any{crm, op2, word})
				var left []string
				for _, d := range b.m.Dirty() {
					left = append(left, fmt.Sprint(d.Asid, " ", d.Block.Asid, " ", d.Block.Trans.VA>>12))
				}
				want, value := dropLeaves(op2, word)
				if !slices.Equal(left, want) || !slices.Equal(l, []api.Event{{Kind: api.EvDrop, Addr: uint64(op2 + 1), Value: value, Dirty: len(want)}}) {
					t.Errorf("8 0 %d %d with %#x: %q, not %q; %+v", crm, op2, word, left, want, l)
				}
				full := 0
				for _, which := range []int{api.TlbI, api.TlbD, api.TlbMain} {
					for _, s := range b.m.Places(which) {
						if s.Full {
							full++
						}
					}
				}
				// The page 1 stands twice for each ASID, in D and in the main one; the page 2 in all three.
				if places := 2*bools(want, "3 3 1", "4 4 1") + 3*bools(want, "3 -1 2"); full != places {
					t.Errorf("8 0 %d %d with %#x: %d places, not %d", crm, op2, word, full, places)
				}
			}
		}
	}
}

// bools: how many of these texts are in a list.
func bools(l []string, texts ...string) int {
	n := 0
	for _, s := range texts {
		if slices.Contains(l, s) {
			n++
		}
	}
	return n
}

// dropLeaves: which dirts of TestDrops are left (the ASID that is judged, the block's, its page), and the event's Value.
func dropLeaves(op2 int, word uint32) ([]string, uint32) {
	page, asid := word>>12, word&0xff
	taken := func(of uint32, p uint32, global bool) bool {
		switch op2 {
		case 0:
			return true
		case 1:
			return page == p && (global || of == asid)
		case 2:
			return !global && of == asid
		}
		return page == p
	}
	var l []string
	for _, of := range []uint32{3, 4} {
		if !taken(0, 2, true) {
			l = append(l, fmt.Sprint(of, " ", -1, " ", 2))
		}
		if !taken(of, 1, false) {
			l = append(l, fmt.Sprint(of, " ", of, " ", 1))
		}
	}
	return l, [4]uint32{0, page<<12 + asid, asid, page << 12}[op2]
}

// TestDroppedAndSeen: what is dropped is known again behind the step, where the walk finds it.
func TestDroppedAndSeen(t *testing.T) {
	m := fourPages(t, small)
	answers(t, m, load(0x1000, 4), value(11))
	known := m.Known()
	must(t, m.Mcr(api.Tuple{CRn: 8, CRm: 7}, 0, false))
	if l := m.Known(); len(l) != 4 || !slices.Equal(l, known) || m.Places(api.TlbD)[0].Full || m.Places(api.TlbMain)[0].Full {
		t.Errorf("%+v", l)
	}
	must(t, m.Mcr(sctlr, 0, false), m.Mcr(api.Tuple{CRn: 8, CRm: 7}, 0, false))
	if l := m.Known(); len(l) != 0 {
		t.Errorf("%+v", l)
	}
}

// ask: a translation is asked for, and PAR and the event tell the same; no other register turns, and no byte is read.
func ask(t *testing.T, m *machine.Machine, op2 int, word uint32) uint32 {
	t.Helper()
	m.Events()
	var before [api.Registers]uint32
	for i := range before {
		before[i] = m.Reg(i)
	}
	must(t, m.Mcr(api.Tuple{CRn: 7, CRm: 8, Op2: op2}, word, false))
	for i, v := range before {
		if i != api.RegPAR && m.Reg(i) != v {
			t.Errorf("7 0 8 %d with %#x: Reg(%d) %#x", op2, word, i, m.Reg(i))
		}
	}
	par := m.Reg(api.RegPAR)
	l := m.Events()
	if len(l) != 1 || l[0].Kind != api.EvAt || l[0].Addr != uint64(word&^0xfff) || l[0].Value != par {
		t.Errorf("7 0 8 %d with %#x: %+v, PAR %#x", op2, word, l, par)
	}
	return par
}

// TestAskNotOn: each address stands for itself, strongly ordered, whatever the registers say beside.
func TestAskNotOn(t *testing.T) {
	m := made(t, small)
	for _, control := range []uint32{0, 0x10000000, 0x30000000} {
		must(t, m.Mcr(sctlr, control, false), m.Mcr(prrr, 0xffffffff, false))
		for op2 := range 4 {
			for word, want := range map[uint32]uint32{0x12345678: 0x12345090, 0: 0x90, 0xffffffff: 0xfffff090, 0x00100000: 0x00100090} {
				if par := ask(t, m, op2, word); par != want {
					t.Errorf("%#x: %d: %#x, not %#x", control, op2, par, want)
				}
			}
		}
	}
}

// TestAskPlaces: of each size of block, beyond 32 bits too.
func TestAskPlaces(t *testing.T) {
	m := on(t, small, 1, map[uint64]uint32{
		0x4000: 0xc001, 0xc004: 0xfedcb07e, 0xc0fc: 0xabcd503d, // Small; Large, said once: TEX 5 (bits 14 to 12), B, C
		0x4004: 0x98701c0e,             // Section: TEX 1, C, B
		0x404c: 0xcd041c0e,             // Super, said once, as those below, at the MiB 3
		0x408c: 0xcda41c0e | 0xb<<5,    // beyond 32 bits
		0x40cc: 0x00f41c0e | 0xf<<5,    // at the last 2^32 bytes
		0x410c: 0xff041c0e | 0x1<<5,    // at 2^36 + 255 x 2^24
		0x414c: 0x00141c0e | 0x0<<5,    // at 2^32
		0x7ffc: 0xfff01c0e,             // the last MiB
		0x4008: 0x00001c0e | 1<<16,     // shared
		0x400c: 0x00001c0e | 1<<19 | 0, // NS
	})
	for va, want := range map[uint32]uint32{
		0x00001abc: 0xfedcb054, 0x0003fabc: 0xabcdf074,
		0x00100000: 0x98700054, 0x001abcde: 0x987ab054,
		0x01300000: 0xcd000056, 0x013fffff: 0xcd000056, 0x02312345: 0xcdba0056, 0x03300000: 0x00ff0056, 0x043fffff: 0xff100056, 0x05300000: 0x00010056,
		0xffffffff: 0xfffff054, 0xfff00000: 0xfff00054, 0x00200000: 0x000000d4, 0x00301000: 0x00001054,
	} {
		for range 2 { // by the walk, and by a TLB
			for op2 := range 4 {
				if par := ask(t, m, op2, va); par != want {
					t.Errorf("%#x: %d: %#x, not %#x", va, op2, par, want)
				}
			}
		}
	}
}

// TestAskKinds: of each kind of memory, plain and remapped.
func TestAskKinds(t *testing.T) {
	pokes := map[uint64]uint32{0x4000: 0xc001}
	for bits := range uint64(64) {
		tex, cb, s := uint32(bits>>3), uint32(bits>>1&3), uint32(bits&1)
		pokes[0xc000+4*bits] = 0x5032 | tex<<6 | cb<<2 | s<<10
	}
	m := on(t, api.Config{Frames: 256, I: 1, D: 64, Main: 64}, 1, pokes)
	for bits, want := range map[uint32]uint32{
		0: 0x90, 1: 0x90, 2: 0xb0, 3: 0xb0, 4: 0x68, 5: 0xe8, 6: 0x7c, 7: 0xfc, 8: 0, 9: 0x80, 10: 0, 11: 0, 12: 0, 13: 0, 14: 0x54, 15: 0xd4, 16: 0x30, 17: 0x30, 18: 0, 19: 0, 24: 0, 31: 0,
		32: 0, 33: 0x80, 34: 0x50, 36: 0x60, 38: 0x70, 40: 0x04, 44: 0x64, 45: 0xe4, 48: 0x08, 50: 0x58, 56: 0x0c, 58: 0x5c, 62: 0x7c, 63: 0xfc,
	} {
		if par := ask(t, m, 0, bits<<12); par != 0x5000|want {
			t.Errorf("the bits %d: %#x, not %#x", bits, par, 0x5000|want)
		}
	}
	// Remapped: PRRR and NMRR of chapter 6's examples, with the bit 27: n 3 is shared inner.
	must(t, m.Mcr(prrr, 0x080a86a4, false), m.Mcr(nmrr, 0x40e040e0, false), m.Mcr(sctlr, 0x10000001, false))
	for bits, want := range map[uint32]uint32{0: 0x90, 2: 0x30, 3: 0xb0, 4: 0x68, 5: 0xe8, 6: 0x7c, 7: 0x4fc, 8: 0, 9: 0x80, 10: 0x30, 12: 0, 13: 0, 14: 0x54, 15: 0xd4, 16 + 7: 0x4fc, 48 + 6: 0x7c, 56 + 4: 0} {
		if par := ask(t, m, 0, bits<<12); par != 0x5000|want {
			t.Errorf("remapped, the bits %d: %#x, not %#x", bits, par, 0x5000|want)
		}
	}
	// All bits, by any registers: as the model says.
	met := map[api.Mem]bool{}
	w := rand.New(rand.NewSource(1))
	for i := range 400 {
		p, n := w.Uint32(), w.Uint32()
		control := uint32(1 + i%2<<28)
		must(t, m.Mcr(prrr, p, false), m.Mcr(nmrr, n, false), m.Mcr(sctlr, control, false))
		for bits := range uint32(64) {
			c := m.Context()
			trans := api.Trans{Size: api.Small, Leaf: api.Leaf{Bits: bits}}
			if kind, e := attr.Of(c.TRE, c.PRRR, c.NMRR, bits); e == api.OK {
				met[kind] = true
			}
			if par, want := ask(t, m, 2, bits<<12), parWord(c, 0x5000, trans, api.Fault{}); par != want {
				t.Errorf("%#x %#x %#x, the bits %d: %#x, not %#x", control, p, n, bits, par, want)
			}
		}
	}
	if len(met) != 1+3+48 { // strong, a device shared in three ways, normal memory by both policies, shared likewise
		t.Errorf("only %d kinds were met", len(met))
	}
}

// TestAskFaults: a fault of each code.
func TestAskFaults(t *testing.T) {
	for _, x := range troubles {
		switch x.want.Kind {
		case api.FAlign, api.FBus:
			continue // an address of a page is aligned, and no byte is read
		}
		want := 1 + 2*(x.code&0xf)
		for op2 := range 4 {
			for range 2 {
				if par := ask(t, troubled(t, x), op2, x.va); par != want {
					t.Errorf("%s: %d: %#x, not %#x", x.name, op2, par, want)
				}
			}
		}
	}
	// Where the block stands beyond the memory there is no fault.
	m := troubled(t, trouble{})
	must(t, m.Poke(0xc008, 0x10003e))
	if par := ask(t, m, 0, 0x2000); par != 0x10007c {
		t.Errorf("%#x", par)
	}
	// A conflict: by the main one, where it is asked first; D alone has no two.
	m = conflicting(t)
	for op2 := range 4 {
		must(t, m.Noise([]api.Noise{{MainFirst: true}}))
		if par := ask(t, m, op2, 0x1000); par != 33 {
			t.Errorf("%#x", par)
		}
		if par := ask(t, m, op2, 0x1000); par != 0x7090 {
			t.Errorf("%#x", par)
		}
	}
}

// TestAskRights: for whom, and for what, each of the four asks.
func TestAskRights(t *testing.T) {
	may := map[uint32][2]string{0: {"", ""}, 1: {"rw", ""}, 2: {"rw", "r"}, 3: {"rw", "rw"}, 4: {"", ""}, 5: {"r", ""}, 6: {"r", "r"}, 7: {"r", "r"}}
	pokes := map[uint64]uint32{0x4000: 0xc021}
	for ap := range uint64(8) {
		pokes[0xc000+4*ap] = 0x7003 | uint32(ap%4)<<4 | uint32(ap/4)<<9 // XN says nothing to a load
	}
	m := on(t, small, 4, pokes)
	for ap, r := range may {
		for op2 := range 4 {
			side, store := r[op2/2], op2%2 == 1
			want := uint32(1 + 2*15)
			if store && side == "rw" || !store && side != "" {
				want = 0x7090
			}
			if par := ask(t, m, op2, ap<<12); par != want {
				t.Errorf("AP %d: %d: %#x, not %#x", ap, op2, par, want)
			}
		}
	}
}

// TestAskKeeps: what the walk found is kept, in D and the main one, and found there again.
func TestAskKeeps(t *testing.T) {
	for op2 := range 4 {
		m := fourPages(t, small)
		first := ask(t, m, op2, 0x1000)
		if first != 0x1107c || !m.Places(api.TlbD)[0].Full || !m.Places(api.TlbMain)[0].Full || m.Places(api.TlbI)[0].Full {
			t.Errorf("%d: %#x", op2, first)
		}
		must(t, m.Poke(0xc004, 0x1283e))
		if par := ask(t, m, op2, 0x1000); par != first {
			t.Errorf("%d: %#x", op2, par)
		}
		must(t, m.Mcr(api.Tuple{CRn: 8, CRm: 7}, 0, false))
		if par := ask(t, m, op2, 0x1000); par != 0x1207c {
			t.Errorf("%d: %#x", op2, par)
		}
	}
}

// TestAskByAUser: none of it.
func TestAskByAUser(t *testing.T) {
	m := fourPages(t, small)
	for op2 := range 4 {
		if e := m.Mcr(api.Tuple{CRn: 7, CRm: 8, Op2: op2}, 0x1000, true); e != api.ErrPriv || m.Reg(api.RegPAR) != 0 || m.Places(api.TlbMain)[0].Full || len(m.Events()) != 0 {
			t.Errorf("%d: %v", op2, e)
		}
	}
}

// TestPARIsWritten: as any register; and a translation writes over it.
func TestPARIsWritten(t *testing.T) {
	m := made(t, small)
	must(t, m.Mcr(api.Tuple{CRn: 7, CRm: 4}, 0xffffffff, false))
	if v, e := m.Mrc(api.Tuple{CRn: 7, CRm: 4}, false); v != 0xffffffff || e != api.OK {
		t.Errorf("%#x %v", v, e)
	}
	ask(t, m, 1, 0x1000)
	if v, e := m.Mrc(api.Tuple{CRn: 7, CRm: 4}, false); v != 0x1090 || e != api.OK {
		t.Errorf("%#x %v", v, e)
	}
}
