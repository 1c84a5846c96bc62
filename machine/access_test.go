package machine_test

import (
	"bytes"
	"math"
	"testing"

	"atlas/api"
	"atlas/machine"
)

var kinds = []int{api.Fetch, api.Load, api.Store}

// TestDoRefused: a kind, or a number of bytes, that is none.
func TestDoRefused(t *testing.T) {
	m := on(t, small, 1, map[uint64]uint32{0x4000: 0xc02, 8: 0x55})
	must(t, m.Noise(make([]api.Noise, 5)))
	before := all(t, m)
	for _, kind := range []int{0, 4, -1, 5, math.MinInt, math.MaxInt, 1 << 32} {
		for _, n := range []int{1, 2, 4, 0, 3} {
			refused(t, m, api.Access{Kind: kind, VA: 8, Bytes: n, Value: 7, Priv: true})
		}
	}
	for _, kind := range kinds {
		for _, n := range []int{0, 3, 5, 6, 8, 16, -1, -2, -4, math.MinInt, math.MaxInt, 1<<32 + 1, 1<<32 + 4} {
			refused(t, m, api.Access{Kind: kind, VA: 8, Bytes: n, Value: 7})
			refused(t, m, api.Access{Kind: kind, VA: 0x100001, Bytes: n, Value: 7})
		}
	}
	if m.Left() != 5 || len(m.Events()) != 0 || m.Reg(api.RegDFSR) != 0 || m.Reg(api.RegIFSR) != 0 || m.Places(api.TlbMain)[0].Full || !bytes.Equal(all(t, m), before) {
		t.Error("what was refused was a step")
	}
}

func refused(t *testing.T, m *machine.Machine, a api.Access) {
	t.Helper()
	if got, e := m.Do(a); got != (api.Answer{}) || e != api.ErrArg {
		t.Errorf("%+v: %+v %v", a, got, e)
	}
}

// TestDoNotOn: each address stands for itself, at the memory's ends too, whoever asks.
func TestDoNotOn(t *testing.T) {
	for _, frames := range []int{256, 512} {
		for _, priv := range []bool{false, true} {
			b := newBoth(t, api.Config{Frames: frames, I: 1, D: 1, Main: 1})
			b.mcr(sctlr, 0x30000000, false) // AFE and TRE say nothing
			end := uint32(frames * 4096)
			for i, at := range []uint32{0, 4, 4092, 4096, end - 8, end - 4} {
				b.poke(uint64(at), 0x81828384+uint32(i))
				for _, n := range []int{1, 2, 4} {
					for off := uint32(0); off < 4; off += uint32(n) {
						want := uint32(uint64(0x81828384+i)>>(8*off)) & uint32(1<<(8*n)-1)
						for _, kind := range []int{api.Fetch, api.Load} {
							answers(t, b.m, api.Access{Kind: kind, VA: at + off, Bytes: n, Value: 0xffffffff, Priv: priv}, value(want))
						}
					}
				}
			}
			for i, at := range []uint32{0, 1, 2, 3, 4, 8, 4095, 4096, end - 4, end - 2, end - 1} {
				for _, n := range []int{4, 2, 1} {
					b.do(api.Access{Kind: api.Store, VA: at, Bytes: n, Value: 0xa1b2c3d4 + uint32(i), Priv: priv})
				}
			}
			b.sameBytes("stored")
			for _, at := range []uint32{end, end + 4, end * 2, 0x80000000, 0xfffffffc} {
				for _, kind := range kinds {
					for _, n := range []int{1, 2, 4} {
						answers(t, b.m, api.Access{Kind: kind, VA: at, Bytes: n, Value: 7, Priv: priv}, fault(api.FBus))
					}
				}
			}
			answers(t, b.m, load(math.MaxUint32, 1), fault(api.FBus))
			answers(t, b.m, load(math.MaxUint32, 2), fault(api.FAlign))
			b.sameBytes("behind the faults")
			for _, which := range []int{api.TlbI, api.TlbD, api.TlbMain} {
				if b.m.Places(which)[0].Full {
					t.Error("a block is kept where the context is not On")
				}
			}
		}
	}
}

// TestStores: the lowest bytes of a value, and no byte beside them.
func TestStores(t *testing.T) {
	for n, mask := range map[int]uint32{1: 0xff, 2: 0xffff, 4: 0xffffffff} {
		for off := uint32(0); off < 4; off += uint32(n) {
			m := on(t, small, 1, map[uint64]uint32{0x4000: 0xc02, 0x1000: 0x11223344, 0xffc: 0x55667788, 0x1004: 0x99aabbcc})
			answers(t, m, store(0x1000+off, n, 0xe1e2e3e4), value(0))
			want := 0x11223344&^(mask<<(8*off)) | 0xe1e2e3e4&mask<<(8*off)
			for pa, v := range map[uint64]uint32{0x1000: want, 0xffc: 0x55667788, 0x1004: 0x99aabbcc} {
				if got, _ := m.Word(pa); got != v {
					t.Errorf("%d bytes at %d: the word at %#x is %#x, not %#x", n, off, pa, got, v)
				}
			}
			answers(t, m, load(0x1000+off, n), value(0xe1e2e3e4&mask))
		}
	}
}

// TestDoOn: by pages, sections and supersections, at a block's ends, and where it stands beyond the memory.
func TestDoOn(t *testing.T) {
	b := newBoth(t, api.Config{Frames: 256, I: 2, D: 2, Main: 8})
	for pa, v := range map[uint64]uint32{
		0x4000: 0xc001, 0xc000: 0x1083e, 0xc3fc: 0xff83e, // the first page at 0x10000, the last one of its MiB at 0xff000
		0x4004: 0x0c02,                   // the second MiB at 0
		0x4008: 0x100c02, 0x7ffc: 0x0c02, // the third one beyond the memory; the last one at 0
		0x10000: 0x10101010, 0x10ffc: 0x20202020, 0xff000: 0x30303030, 0xffffc: 0x40404040, 0: 0x50505050,
	} {
		b.poke(pa, v)
	}
	for i := range uint64(16) {
		b.poke(0x4040+4*i, 0x40c02)               // 16 MiB at 0
		b.poke(0x4080+4*i, 0x40c02|0x100000|0x20) // at 2^32 + 2^36
		b.poke(0xc040+4*i, 0xf0031)               // 64 KiB at 0xf0000
	}
	b.mcr(ttbr0, rootA, false)
	b.mcr(dacr, 1, false)
	b.mcr(sctlr, 1, false)
	for _, c := range []struct {
		va   uint32
		want api.Answer
	}{
		{0, value(0x10101010)}, {0xffc, value(0x20202020)}, {0xff000, value(0x30303030)}, {0xffffc, value(0x40404040)},
		{0x1000, api.Answer{Fault: api.Fault{Kind: api.FTrans2}}},
		{0x100000, value(0x50505050)}, {0x1ffffc, value(0x40404040)}, {0x110000, value(0x10101010)},
		{0x200000, fault(api.FBus)}, {0x2ffffc, fault(api.FBus)}, {0x300000, fault(api.FTrans1)},
		{0xfff00000, value(0x50505050)}, {0xfffffffc, value(0x40404040)},
		{0x1000000, value(0x50505050)}, {0x10ffffc, value(0x40404040)}, {0x1100000, fault(api.FBus)}, {0x1fffffc, fault(api.FBus)},
		{0x2000000, fault(api.FBus)}, {0x2010000, fault(api.FBus)},
		{0x10000, value(0)}, {0x1fffc, value(0x40404040)}, {0x1f000, value(0x30303030)},
	} {
		for range 2 { // by the walk, and by a TLB
			for _, kind := range kinds {
				for _, priv := range []bool{false, true} {
					v, _ := b.m.Do(load(c.va, 4))
					a := api.Access{Kind: kind, VA: c.va, Bytes: 4, Value: v.Value, Priv: priv}
					want := c.want
					if kind == api.Store {
						want.Value = 0
					}
					answers(t, b.m, a, want)
				}
			}
		}
	}
	b.sameBytes("stored as they were")
}

// TestRights: what a user and what a privileged access may do, by the walk and by a TLB.
func TestRights(t *testing.T) {
	// The pages 0 to 7 have the AP 0 to 7; the pages 8 to 15 too, with XN.
	pokes := map[uint64]uint32{0x4000: 0xc021}
	for i := range uint64(16) {
		ap := uint32(i % 8)
		pokes[0xc000+4*i] = 0x10002 | ap%4<<4 | ap/4<<9 | uint32(i/8)
	}
	may := map[int][2]string{0: {"", ""}, 1: {"rw", ""}, 2: {"rw", "r"}, 3: {"rw", "rw"}, 4: {"", ""}, 5: {"r", ""}, 6: {"r", "r"}, 7: {"r", "r"}}
	m := on(t, api.Config{Frames: 256, I: 3, D: 3, Main: 5}, 4, pokes)
	barred := api.Answer{Fault: api.Fault{Kind: api.FPerm, Level: 2, Domain: 1}}
	for range 2 {
		for page := range uint32(16) {
			for side, priv := range []bool{true, false} {
				r := may[int(page%8)][side]
				for _, kind := range kinds {
					want := barred
					switch {
					case kind == api.Store && r == "rw", kind == api.Load && r != "", kind == api.Fetch && r != "" && page < 8:
						want = value(0)
					}
					answers(t, m, api.Access{Kind: kind, VA: page<<12 + 8, Bytes: 4, Priv: priv}, want)
				}
			}
		}
	}
}

// trouble: an address at which an access has a fault, and the register bits of its code and its domain.
type trouble struct {
	name  string
	lay   func(m *machine.Machine)
	va    uint32
	bytes int
	want  api.Fault
	code  uint32
}

// troubles: each fault that the walk, the check of rights and the memory can have. The root is at 0x4000; DACR makes the domains 1 and 0 clients, 3 a manager.
var troubles = []trouble{
	{"alignment of a word", nil, 0x1002, 4, api.Fault{Kind: api.FAlign}, 1},
	{"alignment of a word, by one", nil, 0x1001, 4, api.Fault{Kind: api.FAlign}, 1},
	{"alignment of a half", nil, 0x1003, 2, api.Fault{Kind: api.FAlign}, 1},
	{"alignment where nothing is", nil, 0x80000001, 2, api.Fault{Kind: api.FAlign}, 1},
	{"walk 1", func(m *machine.Machine) { m.Mcr(ttbr0, 0x100000, false) }, 0x100, 4, api.Fault{Kind: api.FWalk1}, 12},
	{"walk 1 at the end", func(m *machine.Machine) {
		m.Mcr(ttbr0, 0xfc000, false)
		m.Mcr(ttbcr, 1, false)
		m.Mcr(ttbr1, 0x100000, false)
	}, 0x80000000, 1, api.Fault{Kind: api.FWalk1}, 12},
	{"translation 1", nil, 0x80000000, 4, api.Fault{Kind: api.FTrans1}, 5},
	{"translation 1 by PD0", func(m *machine.Machine) { m.Mcr(ttbcr, 0x10, false) }, 0x1000, 4, api.Fault{Kind: api.FTrans1}, 5},
	{"walk 2", func(m *machine.Machine) { m.Poke(0x4004, 0x100000|13<<5|1) }, 0x100000, 4, api.Fault{Kind: api.FWalk2, Domain: 13}, 0xd0 | 14},
	{"translation 2", func(m *machine.Machine) { m.Poke(0x4004, 0xc000|6<<5|1) }, 0x1ff000, 2, api.Fault{Kind: api.FTrans2, Domain: 6}, 0x60 | 7},
	{"access 1", func(m *machine.Machine) { m.Mcr(sctlr, 0x20000001, false); m.Poke(0x4004, 0x802|3<<5) }, 0x100000, 4, api.Fault{Kind: api.FAccess, Level: 1, Domain: 3}, 0x30 | 3},
	{"access 2", func(m *machine.Machine) { m.Mcr(sctlr, 0x20000001, false); m.Poke(0xc004, 0x7022) }, 0x1000, 4, api.Fault{Kind: api.FAccess, Level: 2, Domain: 1}, 0x10 | 6},
	{"domain 1", func(m *machine.Machine) { m.Poke(0x4004, 0xc02|15<<5) }, 0x100000, 4, api.Fault{Kind: api.FDomain, Level: 1, Domain: 15}, 0xf0 | 9},
	{"domain 2", func(m *machine.Machine) { m.Poke(0x4004, 0xc000|2<<5|1) }, 0x101000, 4, api.Fault{Kind: api.FDomain, Level: 2, Domain: 2}, 0x20 | 11},
	{"permission 1", func(m *machine.Machine) { m.Poke(0x4004, 0x002|1<<5) }, 0x100000, 4, api.Fault{Kind: api.FPerm, Level: 1, Domain: 1}, 0x10 | 13},
	{"permission 1 of 16 MiB", func(m *machine.Machine) { m.Poke(0x4040, 0x40002|15<<5) }, 0x1000000, 4, api.Fault{Kind: api.FPerm, Level: 1}, 13},
	{"permission 2", func(m *machine.Machine) { m.Poke(0xc004, 0x7002) }, 0x1000, 4, api.Fault{Kind: api.FPerm, Level: 2, Domain: 1}, 0x10 | 15},
	{"permission 2 of 64 KiB", func(m *machine.Machine) { m.Poke(0xc040, 0x1) }, 0x10000, 1, api.Fault{Kind: api.FPerm, Level: 2, Domain: 1}, 0x10 | 15},
	{"bus", func(m *machine.Machine) { m.Poke(0xc004, 0x10003e) }, 0x1ffc, 4, api.Fault{Kind: api.FBus}, 8},
	{"bus of a manager's", func(m *machine.Machine) { m.Poke(0x4004, 0x100002|3<<5) }, 0x100000, 4, api.Fault{Kind: api.FBus}, 8},
}

// troubled: a machine in which the page 1 stands at 0x7000, with some bytes, and in which there is a trouble.
func troubled(t *testing.T, x trouble) *machine.Machine {
	t.Helper()
	m := on(t, small, 0xc5, map[uint64]uint32{0x4000: 0xc021, 0xc004: 0x703e, 0x7000: 0x11111111, 0x7ffc: 0x22222222, 0: 0x33333333})
	if x.lay != nil {
		x.lay(m)
	}
	m.Events()
	return m
}

// TestFaults: each fault, for each kind: what is answered, told in the registers and in the event; no byte changes (P1312).
func TestFaults(t *testing.T) {
	for _, x := range troubles {
		for _, kind := range kinds {
			for _, priv := range []bool{false, true} {
				m := troubled(t, x)
				before := all(t, m)
				must(t, m.Mcr(api.Tuple{CRn: 5}, 0xffffffff, false), m.Mcr(api.Tuple{CRn: 5, Op2: 1}, 0xffffffff, false), m.Mcr(api.Tuple{CRn: 6}, 1, false), m.Mcr(api.Tuple{CRn: 6, Op2: 2}, 2, false))
				m.Events()
				for range 2 {
					answers(t, m, api.Access{Kind: kind, VA: x.va, Bytes: x.bytes, Value: 0xdeadbeef, Priv: priv}, api.Answer{Fault: x.want})
					dfsr, dfar, ifsr, ifar := uint32(0x1cff), uint32(1), uint32(0x140f), uint32(2)
					switch kind {
					case api.Fetch:
						ifsr, ifar = x.code&0x140f, x.va
					case api.Load:
						dfsr, dfar = x.code, x.va
					case api.Store:
						dfsr, dfar = x.code|0x800, x.va
					}
					for reg, want := range map[int]uint32{api.RegDFSR: dfsr, api.RegDFAR: dfar, api.RegIFSR: ifsr, api.RegIFAR: ifar, api.RegPAR: 0} {
						if got := m.Reg(reg); got != want {
							t.Errorf("%s, kind %d: Reg(%d) %#x, not %#x", x.name, kind, reg, got, want)
						}
					}
					if l := m.Events(); len(l) != 1 || l[0].Kind != api.EvAccess || l[0].Addr != uint64(x.va) || l[0].Value != 1 {
						t.Errorf("%s: %+v", x.name, l)
					}
				}
				if !bytes.Equal(all(t, m), before) {
					t.Errorf("%s, kind %d: a byte has changed", x.name, kind)
				}
			}
		}
	}
}

// TestKeptThoughBarred: what a walk found is kept ahead of the check of rights and of the memory; a fault of the walk keeps nothing.
func TestKeptThoughBarred(t *testing.T) {
	for _, x := range troubles {
		m := troubled(t, x)
		if a, e := m.Do(load(x.va, x.bytes)); a.Fault != x.want || e != api.OK {
			t.Errorf("%s: %+v %v", x.name, a, e)
		}
		want := false
		switch x.want.Kind {
		case api.FAccess, api.FDomain, api.FPerm, api.FBus:
			want = true
		}
		if m.Places(api.TlbD)[0].Full != want || m.Places(api.TlbMain)[0].Full != want || m.Places(api.TlbI)[0].Full {
			t.Errorf("%s: %+v", x.name, m.Places(api.TlbMain))
		}
	}
}

// TestNoFaultIsTold: an access without a fault leaves the registers of faults as they are.
func TestNoFaultIsTold(t *testing.T) {
	m := troubled(t, trouble{})
	for i, reg := range []api.Tuple{{CRn: 5}, {CRn: 5, Op2: 1}, {CRn: 6}, {CRn: 6, Op2: 2}} {
		must(t, m.Mcr(reg, uint32(i+1), false))
	}
	for _, kind := range kinds {
		answers(t, m, api.Access{Kind: kind, VA: 0x1ffc, Bytes: 4, Value: 0x22222222}, map[bool]api.Answer{true: value(0), false: value(0x22222222)}[kind == api.Store])
	}
	for i, reg := range []int{api.RegDFSR, api.RegIFSR, api.RegDFAR, api.RegIFAR} {
		if m.Reg(reg) != uint32(i+1) {
			t.Errorf("Reg(%d) %#x", reg, m.Reg(reg))
		}
	}
}

// TestStoreIntoItsTable: a store that cuts its own page off: what it stored is seen, and its block is stale behind it.
func TestStoreIntoItsTable(t *testing.T) {
	b := newBoth(t, small)
	b.poke(0x4000, 0xc001)
	b.poke(0xc004, 0xc83e) // the page 1 is the table itself
	b.mcr(ttbr0, rootA, false)
	b.mcr(dacr, 1, false)
	b.mcr(sctlr, 1, false)
	b.do(store(0x1004, 4, 0))
	b.same("cut off")
	b.knows("cut off")
	if !b.m.Stale(0, 0x1000) || len(b.m.Dirty()) != 1 {
		t.Error("it is not dirty")
	}
	answers(t, b.m, load(0x1004, 4), value(0)) // D has it
	b.o.Do(load(0x1004, 4))
	b.do(store(0x1008, 4, 0xd83e)) // another page comes in by the old one
	b.same("a new one")
	b.do(load(0x2000, 4))
	b.same("walked")
	b.sameEvents("all")
	b.sameBytes("all")
}
