package tables_test

import (
	"math/rand"
	"testing"

	"atlas/api"
	"atlas/desc"
	"atlas/walk"
)

var (
	sctlr   = api.Tuple{CRn: 1}
	ttbr0   = api.Tuple{CRn: 2}
	ttbr1   = api.Tuple{CRn: 2, Op2: 1}
	ttbcr   = api.Tuple{CRn: 2, Op2: 2}
	dacr    = api.Tuple{CRn: 3}
	context = api.Tuple{CRn: 13, Op2: 1}
)

// nowhere: frames of zeros that are none of the pool's; the walks of the upper part, and of ASIDs whose root was freed, read them.
const nowhere = 0x4000

// turn: the machine walks root for asid; no context with one ASID and another root is ever seen.
func (d *desk) turn(root uint64, asid int) {
	d.t.Helper()
	for _, c := range []struct {
		t api.Tuple
		v uint32
	}{{sctlr, 0}, {ttbcr, uint32(d.x.n)}, {ttbr0, uint32(root)}, {ttbr1, 0}, {dacr, 0xffffffff}, {context, uint32(asid)}, {sctlr, 1}} {
		is(d.t, "Mcr", d.m.Mcr(c.t, c.v, false), api.OK)
	}
	d.m.Events()
}

// noise: of all sorts.
func (w world) noise(n int) api.Noise {
	return api.Noise{
		Act: pick(w, api.NNone, api.NEvict, api.NFill, api.NFill, api.NFill), Which: pick(w, api.TlbI, api.TlbD, api.TlbMain),
		Slot: w.Intn(4), VA: w.va(n), Fetch: w.chance(2), Pick: w.Intn(4), MainFirst: w.chance(2),
	}
}

func (w world) noises(n, count int) []api.Noise {
	var l []api.Noise
	for range count {
		l = append(l, w.noise(n))
	}
	return l
}

// clean: P1403 behind a call; live, if the machine walks the root: a first step that takes a block away leaves a dirt.
func (d *desk) clean(live, takes bool, what string) {
	d.t.Helper()
	if l := d.m.Dirty(); len(l) != 0 {
		d.t.Fatalf("%s leaves %+v", what, l)
	}
	if live && takes && d.last[0].Dirty == 0 {
		d.t.Fatalf("%s: nothing is dirty behind its first step", what)
	}
	for which := api.TlbI; which <= api.TlbMain; which++ {
		for _, s := range d.m.Places(which) {
			if c, ok := d.m.Judge(s.Block.Asid); s.Full && (!ok || !walk.Same(d.m, c, s.Block.Trans)) {
				d.t.Fatalf("%s: %+v is kept", what, s.Block)
			}
		}
	}
}

// TestCleanBehind: P1403 and P1401: several roots with an ASID each, walked in turn, with noise and accesses between.
func TestCleanBehind(t *testing.T) {
	for seed := range int64(7) {
		w := world{rand.New(rand.NewSource(200 + seed))}
		n := 1 + int(seed)
		d := newDesk(t, api.Config{Frames: 256, I: pick(w, 1, 2), D: 2, Main: pick(w, 1, 2, 4)}, 8, 14, n)
		d.quiet = true
		asids := map[uint64]int{}
		for _, asid := range []int{1, 9, 255} {
			root, e := d.Root()
			is(t, "Root", e, api.OK)
			asids[root] = asid
		}
		now := d.e.Roots()[0]
		d.turn(now, asids[now])
		for i := range 150 {
			is(t, "Noise", d.m.Noise(w.noises(n, w.Intn(40))), api.OK)
			root := pick(w, append(d.e.Roots(), now)...)
			if w.chance(6) {
				d.turn(root, asids[root])
				now = root
			}
			blocks := len(d.e.Blocks(root)) > 0
			vas := w.vas(d, root, n)
			switch w.Intn(8) {
			case 0, 1, 2:
				d.Put(root, d.spare(root, w.blocks(n))...)
				d.clean(false, false, "Put")
			case 3, 4:
				if d.Cut(root, asids[root], vas...) == api.OK {
					d.clean(root == now, len(vas) > 0, "Cut")
				}
			case 5, 6:
				if d.Change(root, asids[root], w.leaf(), vas...) == api.OK {
					d.clean(root == now, len(vas) > 0, "Change")
				}
			case 7:
				if w.chance(4) {
					d.Empty(root, asids[root])
					d.clean(root == now, blocks, "Empty")
				}
			}
			for range 4 {
				d.m.Do(api.Access{Kind: pick(w, api.Load, api.Fetch), VA: w.va(n) &^ 3, Bytes: 4, Priv: w.chance(2)})
			}
			d.m.Events()
			if i%10 == 0 {
				d.always()
				d.sameMemory([]any{"live"})
			}
		}
	}
}

// TestFreeOfAWalkedRoot: a root that was walked goes back when no judge walks it any more.
func TestFreeOfAWalkedRoot(t *testing.T) {
	d, root := made(t, 2)
	d.turn(root, 5)
	is(t, "Put", d.Put(root, block(api.Small, 0x1000, 0x20000), block(api.Section, 0x100000, 0)), api.OK)
	d.m.Do(api.Access{Kind: api.Load, VA: 0x1000, Bytes: 4})
	d.m.Events()
	is(t, "Empty", d.Empty(root, 5), api.OK)
	d.clean(true, true, "Empty")
	d.turn(nowhere, 5)
	is(t, "Free", d.Free(root), api.OK)
	d.clean(false, false, "Free")
	f, _ := d.others(1, 1)
	if uint64(f)*4096 != root {
		t.Errorf("the frame %d", f)
	}
	d.clean(false, false, "others")
}

// TestFirstStep: P1403: each size, each call: it is dirty behind the first step and clean at the end.
func TestFirstStep(t *testing.T) {
	for _, s := range sizes {
		d, root := made(t, 4)
		d.turn(root, 77)
		va := uint32(0x5000000)
		is(t, "Put", d.Put(root, block(s.size, va, 0)), api.OK)
		for _, e := range d.last {
			if e.Dirty != 0 && s.repeats == 1 {
				t.Errorf("size %d: dirty in a Put: %+v", s.size, d.last)
			}
		}
		d.clean(true, false, "Put")
		is(t, "Change", d.Change(root, 77, ro, va+uint32(desc.Bytes(s.size))-1), api.OK)
		d.clean(true, true, "Change")
		is(t, "Cut", d.Cut(root, 77, va), api.OK)
		d.clean(true, true, "Cut")
		is(t, "Put", d.Put(root, block(s.size, va, 0)), api.OK)
		is(t, "Empty", d.Empty(root, 77), api.OK)
		d.clean(true, true, "Empty")
	}
}

// TestUnseen: P1407: other places, other noise, and the same calls: the same answers, steps and memory.
func TestUnseen(t *testing.T) {
	for seed := range int64(4) {
		n := 1 + int(seed)
		run := func(c api.Config, noisy bool) []any {
			w, outer := world{rand.New(rand.NewSource(300 + seed))}, world{rand.New(rand.NewSource(400 + seed))}
			d := newDesk(t, c, 8, 6, n)
			d.quiet = true
			root, _ := d.Root()
			d.turn(root, 3)
			var told []any
			for range 100 {
				if noisy {
					d.m.Noise(outer.noises(n, outer.Intn(20)))
				}
				vas, l, leaf := w.vas(d, root, n), w.blocks(n), w.leaf()
				switch w.Intn(4) {
				case 0, 1:
					told = append(told, d.Put(root, d.spare(root, l)...), d.Put(root, l...))
				case 2:
					told = append(told, d.Cut(root, 3, vas...))
				case 3:
					told = append(told, d.Change(root, 3, leaf, vas...))
				}
				told = append(told, len(d.last), len(d.e.Blocks(root)), len(d.e.Tables()))
			}
			d.sameMemory([]any{"unseen"})
			return told
		}
		a := run(api.Config{Frames: 256, I: 1, D: 1, Main: 1}, false)
		b := run(api.Config{Frames: 256, I: 4, D: 3, Main: 64}, true)
		if len(a) != len(b) {
			t.Fatalf("%d and %d answers", len(a), len(b))
		}
		for i := range a {
			if a[i] != b[i] {
				t.Errorf("the answer %d: %v and %v", i, a[i], b[i])
			}
		}
	}
}
