package tables_test

import (
	"math/rand"
	"slices"
	"testing"

	"atlas/api"
	"atlas/desc"
	"atlas/tlb"
	"atlas/walk"
)

// world: what comes at random, from few addresses, so that blocks meet.
type world struct{ *rand.Rand }

func pick[T any](w world, l ...T) T { return l[w.Intn(len(l))] }

// chance: true once in n.
func (w world) chance(n int) bool { return w.Intn(n) == 0 }

// va: mostly in the part.
func (w world) va(n int) uint32 {
	end := uint32(1 << (32 - n))
	meg := pick(w, uint32(0), 0, 1, 1, 2, 3, 16, 17, 31, end>>20-1, end>>20-1)
	if w.chance(40) {
		meg = pick(w, end>>20, 4095)
	}
	return meg<<20 + pick(w, uint32(0), 1, 2, 3, 15, 16, 17, 32, 40, 254, 255)<<12 + pick(w, 0, 0, 0, 0xfff, w.Uint32()%4096)
}

func (w world) leaf() api.Leaf {
	l := api.Leaf{AP: w.Intn(8), Bits: w.Uint32() % 64, NG: true, XN: w.chance(2)}
	if w.chance(40) {
		l = pick(w, api.Leaf{}, api.Leaf{AP: 8, NG: true}, api.Leaf{AP: -1, NG: true}, api.Leaf{Bits: 64, NG: true}, api.Leaf{AP: 3, Bits: 3})
	}
	return l
}

func (w world) block(n int) api.Trans {
	b := api.Trans{Size: pick(w, 1, 1, 1, 1, 2, 2, 3, 4), VA: w.va(n), PA: uint64(w.Uint32()), Leaf: w.leaf()}
	b.VA -= b.VA % uint32(desc.Bytes(b.Size))
	b.PA -= b.PA % desc.Bytes(b.Size)
	if b.Size != api.Super {
		b.Domain = pick(w, 1, 1, 1, 1, 1, 1, 1, 1, 1, 2, 15)
	}
	if w.chance(40) {
		b = pick(w, api.Trans{}, api.Trans{Size: 5, VA: b.VA}, api.Trans{Size: b.Size, VA: b.VA + 1, Leaf: b.Leaf}, api.Trans{Size: b.Size, VA: b.VA, PA: 1 << 40, Leaf: b.Leaf})
	}
	return b
}

func (w world) blocks(n int) []api.Trans {
	var l []api.Trans
	for range pick(w, 0, 1, 1, 1, 1, 2, 2, 3, 5, 8) {
		l = append(l, w.block(n))
	}
	return l
}

// spare: of some blocks those that meet none of the root's and of one another, and mix no domains, so that a Put is not refused for that.
func (d *desk) spare(root uint64, l []api.Trans) []api.Trans {
	var kept []api.Trans
	for _, b := range l {
		if d.x.refused(root, append(kept, b)) == api.OK {
			kept = append(kept, b)
		}
	}
	return kept
}

func (w world) asid() int {
	if w.chance(30) {
		return pick(w, -1, 256)
	}
	return pick(w, 0, 1, 7, 255)
}

// vas: addresses of blocks of the root, mostly of unlike ones.
func (w world) vas(d *desk, root uint64, n int) []uint32 {
	var l []uint32
	bs := d.e.Blocks(root)
	w.Shuffle(len(bs), func(i, j int) { bs[i], bs[j] = bs[j], bs[i] })
	for _, b := range bs[:min(len(bs), pick(w, 0, 1, 1, 1, 2, 3, 5))] {
		l = append(l, b.VA+w.Uint32()%uint32(desc.Bytes(b.Size)))
	}
	if w.chance(8) {
		l = append(l, w.va(n))
	}
	if len(l) > 0 && w.chance(10) {
		l = append(l, pick(w, l...))
	}
	return l
}

// root: one of the editor's, or none.
func (w world) root(d *desk) uint64 {
	if l := d.e.Roots(); len(l) > 0 && !w.chance(40) {
		return pick(w, l...)
	}
	return pick(w, uint64(0), 0x8004, 0x1000, 1<<40)
}

// any: some call, and others' use of the pool beside it. Behind it holds what must hold always.
func (w world) any(d *desk, n int, held *[]api.Run) {
	root := w.root(d)
	switch w.Intn(20) {
	case 0:
		d.Root()
	case 1:
		d.Free(root)
	case 2, 3, 4, 5, 6:
		d.Put(root, w.blocks(n)...)
	case 7, 8, 9:
		if d.x.roots[root] != nil {
			d.Put(root, d.spare(root, w.blocks(n))...)
		}
	case 10:
		d.Fits(root, w.blocks(n)...)
	case 11, 12, 13:
		d.Cut(root, w.asid(), w.vas(d, root, n)...)
	case 14, 15, 16:
		d.Change(root, w.asid(), w.leaf(), w.vas(d, root, n)...)
	case 17:
		if w.chance(3) {
			d.Empty(root, w.asid())
		}
	case 18:
		if k := pick(w, 1, 2); w.chance(2) {
			if f, e := d.others(k, k); e == api.OK {
				*held = append(*held, api.Run{First: f, Count: k})
			}
		}
	case 19:
		if len(*held) > 0 {
			i := w.Intn(len(*held))
			d.othersDrop((*held)[i].First, (*held)[i].Count)
			*held = slices.Delete(*held, i, i+1)
		}
	}
}

// always: P1401, P1405 of the last call, P1406.
func (d *desk) always() {
	d.t.Helper()
	megs := 0
	for _, root := range d.e.Roots() {
		c := api.Context{On: true, N: d.x.n, Base0: root, PD1: true, Asid: 1}
		var found []api.Trans
		for b := range walk.Blocks(d.m, c) {
			found = append(found, b)
		}
		l := d.e.Blocks(root)
		if !slices.Equal(found, l) {
			d.t.Fatalf("the walk finds %+v, Blocks are %+v", found, l)
		}
		seen := map[uint32]bool{}
		for _, b := range l {
			if page(b) {
				seen[b.VA>>20] = true
			}
		}
		megs += len(seen)
	}
	if n := len(d.e.Tables()); n != megs {
		d.t.Fatalf("%d tables, %d MiB with pages", n, megs)
	}
}

// TestAny: any calls, against the model, over pools of few frames.
func TestAny(t *testing.T) {
	for seed := range int64(14) {
		w := world{rand.New(rand.NewSource(seed))}
		n := 1 + int(seed)%7
		d := newDesk(t, plain, 7+w.Intn(4), pick(w, 3, 6, 9, 20), n)
		d.Root()
		var held []api.Run
		for i := range 400 {
			d.quiet = i%8 != 0
			w.any(d, n, &held)
			if i%4 == 0 {
				d.always()
			}
		}
		for _, r := range held {
			d.othersDrop(r.First, r.Count)
		}
		for _, root := range d.e.Roots() {
			is(t, "Empty", d.Empty(root, 0), api.OK)
			is(t, "Free", d.Free(root), api.OK)
		}
		if d.p.Free() != d.p.All().Count || len(d.e.Tables()) != 0 {
			t.Errorf("left: %v, %d", d.e.Tables(), d.p.Free())
		}
	}
}

// watch: P1404, over the events of all calls: the words as they stand, and of each descriptor that went to 0 the block, as long as nothing has dropped it.
type watch struct {
	words  map[uint64]uint32
	broken map[uint64]api.Block
}

// see: the events of a call of a root; the blocks that it had ahead of the call, by their descriptors, are cut or changed for asid.
func (v *watch) see(t *testing.T, l []api.Event, had map[uint64]api.Trans, asid int) int {
	t.Helper()
	drops := 0
	for _, e := range l {
		switch e.Kind {
		case api.EvWipe:
			for a := e.Addr * 4096; a < (e.Addr+uint64(e.Value))*4096; a += 4 {
				delete(v.words, a)
			}
		case api.EvPoke:
			if old := v.words[e.Addr]; old != 0 && e.Value != 0 {
				t.Fatalf("%#x at %#x is written over by %#x", old, e.Addr, e.Value)
			}
			if b, ok := v.broken[e.Addr]; ok && e.Value != 0 {
				t.Fatalf("%#x is written at %#x, and %+v was not dropped", e.Value, e.Addr, b)
			}
			if b, ok := had[e.Addr]; ok && e.Value == 0 {
				v.broken[e.Addr] = api.Block{Asid: asid, Trans: b}
			}
			v.words[e.Addr] = e.Value
		case api.EvDrop:
			drops++
			d := api.Tlbi{Kind: int(e.Addr), Asid: int(e.Value % 256)}
			if d.Kind == api.TlbiMva {
				d.Va = e.Value &^ 0xfff
			}
			for a, b := range v.broken {
				if tlb.Takes(d, b) {
					delete(v.broken, a)
				}
			}
		}
	}
	return drops
}

// TestBreakBeforeMake: P1404 and P1405, over any calls; what the calls of others leave in free frames is not counted.
func TestBreakBeforeMake(t *testing.T) {
	for seed := range int64(6) {
		w := world{rand.New(rand.NewSource(100 + seed))}
		n := 1 + w.Intn(7)
		d := newDesk(t, plain, 8, 12, n)
		d.quiet = true
		v := &watch{map[uint64]uint32{}, map[uint64]api.Block{}}
		for range 3 {
			d.Root()
			v.see(t, d.last, nil, 0)
		}
		for range 400 {
			root := pick(w, d.e.Roots()...)
			had := map[uint64]api.Trans{}
			for _, b := range d.e.Blocks(root) {
				for _, a := range d.x.descriptors(root, b) {
					had[a] = b
				}
			}
			drops, asid := 0, pick(w, 0, 3, 255)
			switch w.Intn(4) {
			case 0, 1:
				d.Put(root, d.spare(root, w.blocks(n))...)
			case 2:
				vas := w.vas(d, root, n)
				if e := d.Cut(root, asid, vas...); e == api.OK {
					drops = len(vas)
				}
			case 3:
				vas := w.vas(d, root, n)
				if e := d.Change(root, asid, w.leaf(), vas...); e == api.OK {
					drops = len(vas)
				}
				if w.chance(20) {
					v.see(t, d.last, had, asid)
					had = map[uint64]api.Trans{}
					for _, b := range d.e.Blocks(root) {
						for _, a := range d.x.descriptors(root, b) {
							had[a] = b
						}
					}
					drops = min(1, len(d.e.Blocks(root)))
					d.Empty(root, asid)
				}
			}
			if got := v.see(t, d.last, had, asid); got != drops {
				t.Fatalf("%d drops, not %d", got, drops)
			}
			if len(v.broken) != 0 {
				t.Fatalf("behind the call %+v is not dropped", v.broken)
			}
		}
	}
}
