package tables_test

import (
	"math"
	"slices"
	"testing"

	"atlas/api"
)

// full: a root with a block of each size and more, at 0x8000; its tables stand from 0x9000 on.
func full(t *testing.T) (*desk, uint64) {
	t.Helper()
	d, root := made(t, 2)
	is(t, "Put", d.Put(root, block(api.Small, 0x1000, 0x20000), block(api.Small, 0x2000, 0x21000), block(api.Large, 0x10000, 0x30000),
		block(api.Section, 0x100000, 0), block(api.Small, 0x2ff000, 0x22000), block(api.Super, 0x1000000, 0x1000000)), api.OK)
	return d, root
}

// TestCut: F14.6: the steps of each size, and when the table goes back.
func TestCut(t *testing.T) {
	d, root := full(t)
	is(t, "Cut", d.Cut(root, 255, 0x1ffffff, 0x1abc), api.OK)
	d.stepsWere(append(pokes(0x8040, 0, 16), dropMva(0x10000ff), poke(0x9004, 0), dropMva(0x10ff))...)
	is(t, "Cut", d.Cut(root, 0, 0x1fffff, 0x2ff001), api.OK)
	d.stepsWere(poke(0x8004, 0), dropMva(0x100000), poke(0x97fc, 0), dropMva(0x2ff000), poke(0x8008, 0))
	if l := d.e.Tables(); !slices.Equal(l, []int{36}) {
		t.Errorf("%v", l)
	}
	// The table goes with the last of the two, whichever is named first.
	is(t, "Cut", d.Cut(root, 1, 0x1ffff, 0x2000), api.OK)
	d.stepsWere(append(pokes(0x9040, 0, 16), dropMva(0x10001), poke(0x9008, 0), dropMva(0x2001), poke(0x8000, 0))...)
	if len(d.e.Blocks(root)) != 0 || len(d.e.Tables()) != 0 || d.p.Free() != 247 {
		t.Errorf("left: %v %v %d", d.e.Blocks(root), d.e.Tables(), d.p.Free())
	}
}

// asids: with those that are none.
var asids = []struct {
	asid int
	want api.Errno
}{{-1, api.ErrArg}, {math.MinInt, api.ErrArg}, {256, api.ErrArg}, {math.MaxInt, api.ErrArg}, {1 << 32, api.ErrArg}, {0, api.OK}, {255, api.OK}}

// TestCutWrong: F14.6's errors, and their order.
func TestCutWrong(t *testing.T) {
	d, root := full(t)
	for _, c := range asids {
		is(t, "Cut", d.Cut(root, c.asid), c.want)
		d.stepsWere()
		if c.want != api.OK {
			is(t, "Cut", d.Cut(root, c.asid, 0x1000), c.want)
			is(t, "Cut", d.Cut(root, c.asid, 0x5000), c.want)
		}
	}
	for _, vas := range [][]uint32{
		{0}, {0xfff}, {0x3000}, {0xffff}, {0x20000}, {0xfffff}, {0x200000}, {0xffffff}, {0x2000000}, {0x40000000}, {math.MaxUint32},
		{0x1000, 0}, {0, 0x1000}, {0x1000, 0x2000, 0x3000},
		{0x1000, 0x1000}, {0x1000, 0x1fff}, {0x10000, 0x1f000}, {0x100000, 0x1fffff}, {0x1000000, 0x1ffffff},
		{0x1000, 0x2000, 0x1001}, {0x2000, 0x1000000, 0x10000, 0x2fff},
	} {
		is(t, "Cut", d.Cut(root, 3, vas...), api.ErrCut)
		is(t, "Change", d.Change(root, 3, ro, vas...), api.ErrCut)
	}
	if len(d.e.Blocks(root)) != 6 {
		t.Errorf("%v", d.e.Blocks(root))
	}
	for _, c := range asids[5:] {
		is(t, "Cut", d.Cut(root, c.asid, 0x1000), api.OK)
		d.stepsWere(poke(0x9004, 0), dropMva(0x1000+uint32(c.asid)))
		is(t, "Put", d.Put(root, block(api.Small, 0x1000, 0)), api.OK)
	}
}

// TestChange: F14.7: of one and of several, of each size, with the leaf that it has already too.
func TestChange(t *testing.T) {
	d, root := full(t)
	is(t, "Change", d.Change(root, 3, api.Leaf{AP: 7, Bits: 63, NG: true, XN: true}, 0x2fff, 0x1800000), api.OK)
	d.stepsWere(slices.Concat(
		[]step{poke(0x9008, 0), dropMva(0x2003), poke(0x9008, 0x00021fff)},
		pokes(0x8040, 0, 16), []step{dropMva(0x1000003)}, pokes(0x8040, 0x0107fc1e, 16))...)
	is(t, "Change", d.Change(root, 0, api.Leaf{NG: true}, 0x1fffff, 0x10000), api.OK)
	d.stepsWere(slices.Concat(
		[]step{poke(0x8004, 0), dropMva(0x100000), poke(0x8004, 0x20022)},
		pokes(0x9040, 0, 16), []step{dropMva(0x10000)}, pokes(0x9040, 0x30801, 16))...)
	is(t, "Change", d.Change(root, 255, rw, 0x1000), api.OK)
	d.stepsWere(poke(0x9004, 0), dropMva(0x10ff), poke(0x9004, 0x2087e))
	is(t, "Change", d.Change(root, 255, rw), api.OK)
	d.stepsWere()
	if b, ok := d.e.Find(root, 0x2000); !ok || b != (api.Trans{Size: api.Small, VA: 0x2000, PA: 0x21000, Domain: 1, Leaf: api.Leaf{AP: 7, Bits: 63, NG: true, XN: true}}) {
		t.Errorf("%+v", b)
	}
}

// TestChangeWrong: F14.7's errors, and their order.
func TestChangeWrong(t *testing.T) {
	d, root := full(t)
	for _, c := range asids {
		is(t, "Change", d.Change(root, c.asid, ro, 0x1000), c.want)
		if c.want != api.OK {
			is(t, "Change", d.Change(root, c.asid, ro), c.want)
			is(t, "Change", d.Change(root, c.asid, ro, 0x5000), c.want)
		}
	}
	for _, leaf := range []api.Leaf{
		{}, {AP: 3, Bits: 14}, {AP: -1, NG: true}, {AP: 8, NG: true}, {Bits: 64, NG: true}, {Bits: math.MaxUint32, NG: true},
		{AP: math.MinInt, NG: true}, {AP: math.MaxInt, NG: true}, {AP: 7, Bits: 63, XN: true},
	} {
		is(t, "Change", d.Change(root, 3, leaf, 0x1000), api.ErrArg)
		is(t, "Change", d.Change(root, 3, leaf, 0x5000), api.ErrArg)
		is(t, "Change", d.Change(root, 3, leaf), api.ErrArg)
	}
	for _, leaf := range []api.Leaf{{NG: true}, {AP: 7, Bits: 63, NG: true}, {AP: 7, Bits: 63, NG: true, XN: true}} {
		is(t, "Change", d.Change(root, 3, leaf, 0x1000), api.OK)
	}
}

// TestEmpty: F14.8: all blocks, rising, one drop, then the tables' descriptors, rising.
func TestEmpty(t *testing.T) {
	d, root := made(t, 2)
	for _, c := range asids {
		is(t, "Empty", d.Empty(root, c.asid), c.want)
		d.stepsWere()
	}
	other, _ := d.Root()
	is(t, "Put", d.Put(other, block(api.Small, 0x1000, 0)), api.OK)
	is(t, "Put", d.Put(root, block(api.Small, 0x200000, 0), block(api.Super, 0x1000000, 0), block(api.Small, 0x1000, 0),
		block(api.Large, 0x210000, 0), block(api.Section, 0x100000, 0), block(api.Small, 0, 0)), api.OK)
	for _, c := range asids[:5] {
		is(t, "Empty", d.Empty(root, c.asid), api.ErrArg)
	}
	is(t, "Empty", d.Empty(root, 255), api.OK)
	// The tables: other's 40, of 0x200000 41, of 0x1000 42.
	d.stepsWere(slices.Concat(
		[]step{poke(0xa800, 0), poke(0xa804, 0), poke(0x8004, 0), poke(0xa400, 0)}, pokes(0xa440, 0, 16), pokes(0x8040, 0, 16),
		[]step{dropAsid(255), poke(0x8000, 0), poke(0x8008, 0)})...)
	if l := d.e.Tables(); !slices.Equal(l, []int{40}) {
		t.Errorf("%v", l)
	}
	is(t, "Empty", d.Empty(root, 255), api.OK)
	d.stepsWere()
	is(t, "Put", d.Put(root, block(api.Section, 0x100000, 0)), api.OK)
	is(t, "Empty", d.Empty(root, 0), api.OK)
	d.stepsWere(poke(0x8004, 0), dropAsid(0))
	if len(d.e.Blocks(other)) != 1 {
		t.Errorf("%v", d.e.Blocks(other))
	}
}
