package tables_test

import (
	"math"
	"slices"
	"testing"

	"atlas/api"
	"atlas/desc"
)

// sizes: the four, with how many descriptors each has.
var sizes = []struct {
	size, repeats int
}{{api.Small, 1}, {api.Large, 16}, {api.Section, 1}, {api.Super, 16}}

// TestPutEnds: each size at the first and the last address of the part, and beyond it, for each n.
func TestPutEnds(t *testing.T) {
	for n := 1; n <= 7; n++ {
		for _, s := range sizes {
			d, root := made(t, n)
			d.quiet = true
			bytes := desc.Bytes(s.size)
			end := uint64(1) << (32 - n)
			is(t, "Put", d.Put(root, block(s.size, uint32(end), 0)), api.ErrArg)
			is(t, "Put", d.Put(root, block(s.size, uint32(1<<32-bytes), 0)), api.ErrArg)
			is(t, "Put", d.Put(root, block(s.size, 0, 0), block(s.size, uint32(end), 0)), api.ErrArg)
			is(t, "Put", d.Put(root, block(s.size, 0, 0)), api.OK)
			is(t, "Put", d.Put(root, block(s.size, uint32(end-bytes), 0)), api.OK)
			if k := len(d.last); k < s.repeats || k > s.repeats+2 {
				t.Errorf("%d steps", k)
			}
			at := d.last[len(d.last)-1]
			lastMeg := root + 4*(end>>20-1)
			if s.size >= api.Section && at.Addr != lastMeg || s.size <= api.Large && at.Addr%1024 != 1020 {
				t.Errorf("n %d, size %d: the last step is %+v", n, s.size, at)
			}
			is(t, "Put", d.Put(root, block(s.size, 0, 0)), api.ErrPut)
			is(t, "Put", d.Put(root, block(s.size, uint32(end-bytes), 0)), api.ErrPut)
			is(t, "Empty", d.Empty(root, 255), api.OK)
			is(t, "Free", d.Free(root), api.OK)
		}
	}
}

// TestPutWords: each size's steps, written out.
func TestPutWords(t *testing.T) {
	d, root := made(t, 2) // 0x8000
	is(t, "Put", d.Put(root, in(block(api.Section, 0x12300000, 0xabc00000), 15)), api.OK)
	d.stepsWere(poke(0x8000+4*0x123, 0xabc21dee)) // AP 3: bits 11, 10; Bits 14: TEX 1, C, B; NG: bit 17; domain 15
	is(t, "Put", d.Put(root, block(api.Super, 0x21000000, 0x98_cd00_0000)), api.OK)
	d.stepsWere(pokes(0x8000+4*0x210, 0xcd861d2e, 16)...)
	is(t, "Put", d.Put(root, in(block(api.Large, 0x2f0000, 0xdef00000), 0)), api.OK)
	d.stepsWere(append([]step{wipe(9, 1), poke(0x8008, 0x9001)}, pokes(0x9000+4*0xf0, 0xdef0183d, 16)...)...)
	is(t, "Put", d.Put(root, in(block(api.Small, 0x2ef000, 0xdef01000), 0)), api.OK)
	d.stepsWere(poke(0x9000+4*0xef, 0xdef0187e))
	b := in(block(api.Small, 0x200000, 0), 0)
	b.Leaf = api.Leaf{AP: 4, NG: true, XN: true}
	is(t, "Put", d.Put(root, b), api.OK)
	d.stepsWere(poke(0x9000, 0xa03))
	is(t, "Put", d.Put(root, block(api.Small, 0x3ff000, 0x1000), block(api.Small, 0x4ff000, 0x2000)), api.OK)
	d.stepsWere(poke(0x800c, 0x9421), poke(0x97fc, 0x187e), poke(0x8010, 0x9821), poke(0x9bfc, 0x287e))
}

// TestPutWrong: what is not right, or global.
func TestPutWrong(t *testing.T) {
	d, root := made(t, 2)
	good := block(api.Section, 0x100000, 0x100000)
	for _, s := range sizes {
		right := block(s.size, 0x2000000, 0x3000000)
		wrong := []api.Trans{right, right, right, right, right, right, right, right, right, right, right, right, right, right}
		wrong[0].Leaf.NG = false
		wrong[1].Leaf.AP = -1
		wrong[2].Leaf.AP = 8
		wrong[3].Leaf.Bits = 64
		wrong[4].Leaf.Bits = math.MaxUint32
		wrong[5].Domain = -1
		wrong[6].Domain = 16
		wrong[7].VA++
		wrong[8].VA -= uint32(desc.Bytes(s.size)) / 2
		wrong[9].PA++
		wrong[10].PA += desc.Bytes(s.size) / 2
		wrong[11].PA = 1 << 40
		wrong[12].Size = 0
		wrong[13].Size = 5
		for _, b := range wrong {
			is(t, "Put", d.Put(root, b), api.ErrArg)
			is(t, "Put", d.Put(root, good, b), api.ErrArg)
			is(t, "Put", d.Put(root, b, good), api.ErrArg)
			is(t, "Put", d.Put(root, good, good, b), api.ErrArg) // ahead of ErrPut
		}
		is(t, "Put", d.Put(root, good, right, good), api.ErrPut)
		is(t, "Put", d.Put(root, right), api.OK)
		is(t, "Cut", d.Cut(root, 0, 0x2000000), api.OK)
	}
	is(t, "Put", d.Put(root, in(block(api.Super, 0, 0), 1)), api.ErrArg)
	is(t, "Put", d.Put(root, block(api.Section, 0, 1<<32)), api.ErrArg)
	is(t, "Put", d.Put(root, good), api.OK)
}

// TestPutMeets: blocks of all sizes that touch, and that meet, in one call and in several.
func TestPutMeets(t *testing.T) {
	const at = 0x2000000
	for _, a := range sizes {
		for _, b := range sizes {
			big, little := desc.Bytes(max(a.size, b.size)), desc.Bytes(min(a.size, b.size))
			first := block(a.size, at, 0)
			for _, va := range []uint64{at, at + big - little, at + big/2/little*little, at - little, at - big, at + little, at + big} {
				second := block(b.size, uint32(va), 0)
				if va%desc.Bytes(b.size) != 0 {
					continue
				}
				want := api.OK
				if meet(first, second) {
					want = api.ErrPut
				}
				d, root := made(t, 3)
				d.quiet = true
				other, _ := d.Root()
				is(t, "Put", d.Put(root, first, second), want)
				is(t, "Put", d.Put(other, second, first), want)
				third, _ := d.Root()
				is(t, "Put", d.Put(third, first), api.OK)
				is(t, "Put", d.Put(third, second), want)
				if want == api.OK {
					is(t, "Cut", d.Cut(third, 9, at, uint32(va)), api.OK)
				} else {
					is(t, "Cut", d.Cut(third, 9, at), api.OK)
				}
				is(t, "Put", d.Put(third, second), api.OK)
			}
		}
	}
}

// TestPutMeetsOneOfMany: the one that meets stands at any place.
func TestPutMeetsOneOfMany(t *testing.T) {
	var l []api.Trans
	for i := range uint32(6) {
		l = append(l, block(api.Small, 0x10000+0x2000*i, 0))
	}
	for i := range l {
		d, root := made(t, 3)
		d.quiet = true
		is(t, "Put", d.Put(root, l[i]), api.OK)
		is(t, "Put", d.Put(root, l...), api.ErrPut)
		is(t, "Put", d.Put(root, append(slices.Delete(slices.Clone(l), i, i+1), block(api.Large, 0, 0))...), api.OK)
		for j := range l {
			twice := append(slices.Clone(l), l[j])
			twice[i], twice[j] = twice[j], twice[i]
			other, _ := d.Root()
			is(t, "Put", d.Put(other, twice...), api.ErrPut)
			is(t, "Put", d.Put(other, append([]api.Trans{block(api.Section, 0, 0)}, l[j])...), api.ErrPut)
			is(t, "Free", d.Free(other), api.OK)
		}
	}
}

// TestPutDomains: one domain for a MiB's table; sections beside it may have any.
func TestPutDomains(t *testing.T) {
	d, root := made(t, 2)
	a, b := block(api.Small, 0x1000, 0), block(api.Large, 0x20000, 0)
	for _, domain := range []int{0, 2, 15} {
		is(t, "Put", d.Put(root, a, in(b, domain)), api.ErrPut)
		is(t, "Put", d.Put(root, in(b, domain), a), api.ErrPut)
		is(t, "Put", d.Put(root, a, block(api.Small, 0x2000, 0), in(b, domain)), api.ErrPut)
		is(t, "Put", d.Put(root, a, in(block(api.Small, 0x100000, 0), domain), in(block(api.Section, 0x200000, 0), domain)), api.OK)
		is(t, "Put", d.Put(root, in(b, domain)), api.ErrPut)
		is(t, "Put", d.Put(root, in(b, domain), b), api.ErrPut)
		is(t, "Put", d.Put(root, b, in(block(api.Small, 0x8000, 0), domain)), api.ErrPut)
		is(t, "Put", d.Put(root, block(api.Small, 0x101000, 0)), api.ErrPut)
		is(t, "Put", d.Put(root, in(block(api.Small, 0x101000, 0), domain), b), api.OK)
		is(t, "Empty", d.Empty(root, 1), api.OK)
		is(t, "Put", d.Put(root, in(b, domain)), api.OK) // the table went back with its domain
		is(t, "Cut", d.Cut(root, 1, 0x20000), api.OK)
	}
	other, _ := d.Root()
	is(t, "Put", d.Put(root, a), api.OK)
	is(t, "Put", d.Put(other, in(a, 5)), api.OK)
	is(t, "Change", d.Change(root, 1, ro, 0x1000), api.OK)
	is(t, "Put", d.Put(root, in(b, 5)), api.ErrPut)
}

// TestPutTables: which tables are taken, in l's order, and which frames are wiped: one that was the slab's is not.
func TestPutTables(t *testing.T) {
	d := newDesk(t, plain, 8, 4, 2)
	f, _ := d.others(4, 1)
	d.othersDrop(f, 4) // their bytes are no zeros
	root, _ := d.Root()
	is(t, "Put", d.Put(root, block(api.Small, 0x500000, 0)), api.OK)
	d.stepsWere(wipe(9, 1), poke(0x8014, 0x9021), poke(0x9000, 0x087e))
	// A fifth table stands in a new frame.
	is(t, "Put", d.Put(root, block(api.Small, 0x400000, 0), block(api.Section, 0, 0), block(api.Small, 0x300000, 0), block(api.Small, 0x401000, 0), block(api.Small, 0x200000, 0), block(api.Small, 0x100000, 0)), api.OK)
	d.stepsWere(poke(0x8010, 0x9421), poke(0x9400, 0x087e), poke(0x8000, 0x00021c2e), poke(0x800c, 0x9821), poke(0x9800, 0x087e),
		poke(0x9404, 0x087e), poke(0x8008, 0x9c21), poke(0x9c00, 0x087e), wipe(10, 1), poke(0x8004, 0xa021), poke(0xa000, 0x087e))
	if l := d.e.Tables(); !slices.Equal(l, []int{36, 37, 38, 39, 40}) {
		t.Errorf("%v", l)
	}
	// The first frame's first table goes back, and is taken again: no Wipe.
	is(t, "Cut", d.Cut(root, 7, 0x500000), api.OK)
	d.stepsWere(poke(0x9000, 0), dropMva(0x500007), poke(0x8014, 0))
	is(t, "Put", d.Put(root, block(api.Small, 0x5ff000, 0)), api.OK)
	d.stepsWere(poke(0x8014, 0x9021), poke(0x93fc, 0x087e))
	// The second frame goes back whole: it is wiped when it comes again.
	is(t, "Cut", d.Cut(root, 7, 0x100000), api.OK)
	f, _ = d.others(2, 1)
	d.othersDrop(f, 2)
	is(t, "Put", d.Put(root, block(api.Small, 0x100000, 0)), api.OK)
	d.stepsWere(wipe(10, 1), poke(0x8004, 0xa021), poke(0xa000, 0x087e))
	// Two roots may stand in one frame of tables.
	other, _ := d.Root()
	is(t, "Put", d.Put(other, block(api.Small, 0x100000, 0)), api.OK)
	d.stepsWere(poke(0xb004, 0xa421), poke(0xa400, 0x087e))
}

// TestPutNoFrames: no table is left behind some that were taken, and none at all.
func TestPutNoFrames(t *testing.T) {
	d := newDesk(t, plain, 8, 2, 2)
	root, _ := d.Root()
	var l []api.Trans
	for i := range uint32(5) {
		l = append(l, block(api.Small, i<<20, 0))
	}
	is(t, "Put", d.Put(root, l...), api.ErrFrames) // four fit
	if len(d.e.Tables()) != 0 || d.p.Free() != 1 {
		t.Errorf("%v are taken, %d frames are free", d.e.Tables(), d.p.Free())
	}
	is(t, "Put", d.Put(root, append(slices.Clone(l), l[0])...), api.ErrPut) // ahead of ErrFrames
	is(t, "Put", d.Put(root, append(slices.Clone(l), api.Trans{})...), api.ErrArg)
	is(t, "Put", d.Put(root, l[:2]...), api.OK)
	is(t, "Put", d.Put(root, l[2:]...), api.ErrFrames)
	if !slices.Equal(d.e.Tables(), []int{36, 37}) {
		t.Errorf("%v are taken", d.e.Tables())
	}
	is(t, "Put", d.Put(root, l[3], l[2]), api.OK)
	is(t, "Put", d.Put(root, l[4]), api.ErrFrames)
	is(t, "Put", d.Put(root, block(api.Large, 0x410000, 0), block(api.Section, 0x500000, 0)), api.ErrFrames)
	is(t, "Put", d.Put(root, block(api.Section, 0x500000, 0), block(api.Super, 0x1000000, 0), block(api.Small, 0x1000, 0)), api.OK)
	is(t, "Cut", d.Cut(root, 2, 0x100000), api.OK)
	is(t, "Put", d.Put(root, l[4]), api.OK)
	d.stepsWere(poke(0x8010, 0x9421), poke(0x9400, 0x087e))
	empty := newDesk(t, plain, 8, 1, 2)
	root, _ = empty.Root()
	is(t, "Put", empty.Put(root, l[0]), api.ErrFrames)
	is(t, "Put", empty.Put(root, block(api.Section, 0, 0)), api.OK)
}

// TestPutNothing: with no l nothing happens.
func TestPutNothing(t *testing.T) {
	d, root := made(t, 2)
	is(t, "Put", d.Put(root), api.OK)
	d.stepsWere()
	is(t, "Put", d.Put(root, []api.Trans{}...), api.OK)
	is(t, "Put", d.Put(root, block(api.Large, 0, 0)), api.OK)
	is(t, "Put", d.Put(root), api.OK)
	d.stepsWere()
}
