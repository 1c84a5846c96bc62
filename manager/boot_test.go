package manager_test

import (
	"testing"

	"atlas/api"
	"atlas/manager"
	"atlas/walk"
)

// TestBootRefuses: F16.1: Asids, N, and what a machine refuses.
func TestBootRefuses(t *testing.T) {
	for _, row := range []struct {
		what   string
		change func(c *api.Config)
		want   api.Errno
	}{
		{"Asids 0", func(c *api.Config) { c.Asids = 0 }, api.ErrArg},
		{"Asids 1", func(c *api.Config) { c.Asids = 1 }, api.OK},
		{"Asids 255", func(c *api.Config) { c.Asids = 255 }, api.OK},
		{"Asids 256", func(c *api.Config) { c.Asids = 256 }, api.ErrArg},
		{"Asids below 0", func(c *api.Config) { c.Asids = -1 << 63 }, api.ErrArg},
		{"Asids far above", func(c *api.Config) { c.Asids = 1<<63 - 1 }, api.ErrArg},
		{"N 0", func(c *api.Config) { c.N = 0 }, api.ErrArg},
		{"N 1", func(c *api.Config) { c.N = 1 }, api.OK},
		{"N 7", func(c *api.Config) { c.N = 7 }, api.OK},
		{"N 8", func(c *api.Config) { c.N = 8 }, api.ErrArg},
		{"N below 0", func(c *api.Config) { c.N = -1 }, api.ErrArg},
		{"N far above", func(c *api.Config) { c.N = 1<<63 - 1 }, api.ErrArg},
		{"no frame", func(c *api.Config) { c.Frames = 0 }, api.ErrArg},
		{"255 frames", func(c *api.Config) { c.Frames = 255 }, api.ErrArg},
		{"256 frames", func(c *api.Config) { c.Frames = 256 }, api.OK},
		{"no MiB", func(c *api.Config) { c.Frames = 300 }, api.ErrArg},
		{"65536 frames", func(c *api.Config) { c.Frames = 65536 }, api.OK},
		{"65792 frames", func(c *api.Config) { c.Frames = 65792 }, api.ErrArg},
		{"below 0 frames", func(c *api.Config) { c.Frames = -256 }, api.ErrArg},
		{"I 0", func(c *api.Config) { c.I = 0 }, api.ErrArg},
		{"I 65", func(c *api.Config) { c.I = 65 }, api.ErrArg},
		{"D 0", func(c *api.Config) { c.D = 0 }, api.ErrArg},
		{"D 64", func(c *api.Config) { c.D = 64 }, api.OK},
		{"Main 0", func(c *api.Config) { c.Main = 0 }, api.ErrArg},
		{"Main 65", func(c *api.Config) { c.Main = 65 }, api.ErrArg},
		{"nothing", func(c *api.Config) { *c = api.Config{} }, api.ErrArg},
	} {
		c := ordinary
		row.change(&c)
		m, e := manager.Boot(c)
		if e != row.want || (m == nil) != (e != api.OK) {
			t.Errorf("%s: %v, %d", row.what, m, e)
		}
	}
}

// TestBoot: F16.1: the memory, the registers, the context, and nothing else, behind a Boot.
func TestBoot(t *testing.T) {
	for _, frames := range []int{256, 512, 12288, 65536} {
		for _, n := range []int{1, 2, 7} {
			c := api.Config{Frames: frames, I: 3, D: 2, Main: 5, Asids: 9, N: n}
			m, e := manager.Boot(c)
			is(t, "Boot", e, api.OK)
			x := m.Machine()
			if l := x.Events(); len(l) != 0 {
				t.Errorf("%d events are left", len(l))
			}
			if m.Free() != frames-8 || m.Current() != 0 || len(m.Spaces()) != 0 || x.Frames() != frames || x.Left() != 0 {
				t.Errorf("%v: Free %d, Current %d, Spaces %v", c, m.Free(), m.Current(), m.Spaces())
			}
			checkRegisters(t, m, n)
			checkKernel(t, m, frames/256)
		}
	}
}

func checkRegisters(t *testing.T, m *manager.Manager, n int) {
	t.Helper()
	want := [api.Registers]uint32{
		api.RegSCTLR: 1, api.RegTTBCR: uint32(n), api.RegTTBR0: 0x4000, api.RegDACR: 5,
		api.RegPRRR: 0x00098aa4, api.RegNMRR: 0x44e048e0,
	}
	for reg, w := range want {
		if got := m.Machine().Reg(reg); got != w {
			t.Errorf("the register %d holds %#x, not %#x", reg, got, w)
		}
	}
	c := m.Machine().Context()
	if j, ok := m.Machine().Judge(0); !ok || j != c || !c.On || c.Asid != 0 || c.Base0 != 0x4000 || c.Base1 != 0 || c.N != n {
		t.Errorf("the context %+v, the judge %+v", c, j)
	}
	for asid := 1; asid < 256; asid++ {
		if _, ok := m.Machine().Judge(asid); ok {
			t.Errorf("the ASID %d is judged", asid)
		}
	}
}

// checkKernel: the kernel's view is there, MiB by MiB, and no other word.
func checkKernel(t *testing.T, m *manager.Manager, megs int) {
	t.Helper()
	x := m.Machine()
	for f := range min(x.Frames(), 64) {
		for a := uint64(f) * 4096; a < uint64(f+1)*4096; a += 4 {
			want := uint32(0)
			if i := int(a/4) - 3072; i >= 0 && i < megs {
				want = uint32(i)<<20 | 0x141e // XN, AP 1, TEX 1, C, B: Bits 14
			}
			if w, _ := x.Word(a); w != want {
				t.Fatalf("the word at %#x is %#x, not %#x", a, w, want)
			}
		}
	}
	var want []api.Block
	for i := range megs {
		leaf := api.Leaf{AP: 1, Bits: 14, XN: true}
		want = append(want, api.Block{Asid: api.AnyAsid, Trans: api.Trans{Size: api.Section, VA: 0xc0000000 + uint32(i)<<20, PA: uint64(i) << 20, Leaf: leaf}})
	}
	known := x.Known()
	if len(known) != len(want) {
		t.Fatalf("%d blocks are known, not %d", len(known), len(want))
	}
	for i, b := range known {
		if b != want[i] {
			t.Fatalf("%+v is known, not %+v", b, want[i])
		}
	}
	for which := api.TlbI; which <= api.TlbMain; which++ {
		for _, s := range x.Places(which) {
			if s.Full {
				t.Errorf("%+v is kept", s)
			}
		}
	}
	if pa, f := walk.Go(x, x.Context(), 0xc0000000+uint32(megs)<<20-4, true, api.Store); pa != uint64(megs)<<20-4 || f.Kind != api.FNone {
		t.Errorf("the kernel's last word: %#x, %v", pa, f)
	}
	if _, f := walk.Go(x, x.Context(), 0xc0000000+uint32(megs)<<20, true, api.Load); f.Kind != api.FTrans1 {
		t.Errorf("beyond the kernel's view: %v", f)
	}
}

// TestBootUser: whoever accesses while no space is current has nothing, in either part.
func TestBootUser(t *testing.T) {
	for _, n := range []int{1, 2, 7} {
		d := newDesk(t, api.Config{Frames: 512, I: 1, D: 1, Main: 1, Asids: 1, N: n})
		end := uint32(1 << (32 - n))
		for _, kind := range []int{api.Fetch, api.Load, api.Store} {
			for _, va := range []uint32{0, 4096, end - 4, end, 0xbffffffc, 0xc0000000, 0xc01ffffc, 0xc0200000, 0xfffffffc} {
				a := d.User(kind, va, 4, 1)
				want := api.Fault{Kind: api.FTrans1}
				if va >= 0xc0000000 && va < 0xc0200000 {
					want = api.Fault{Kind: api.FPerm, Level: 1}
				}
				is(t, "User", a, api.Answer{Fault: want})
			}
		}
	}
}

// TestBootsApart: rule 5: two managers share nothing.
func TestBootsApart(t *testing.T) {
	a, b := newDesk(t, ordinary).spaces(2), newDesk(t, ordinary)
	if a.m.Machine() == b.m.Machine() || a.m.Machine() != a.m.Machine() {
		t.Fatal("one machine for two")
	}
	a.ok(a.Map(1, 0, api.Small, 3, rw))
	a.ok(a.Switch(1))
	b.behind("what was done to another one")
	b.spaces(1)
	b.ok(b.Map(1, 0, api.Small, 1, rw))
	b.ok(b.Switch(1))
	a.User(api.Store, 0, 4, 7)
	is(t, "Load", b.User(api.Load, 0, 4, 0), api.Answer{})
	a.behind("what was done to another one")
}
