package tables_test

import (
	"math"
	"slices"
	"testing"

	"atlas/api"
	"atlas/frames"
	"atlas/machine"
	"atlas/tables"
)

var (
	plain = api.Config{Frames: 256, I: 2, D: 2, Main: 2}
	rw    = api.Leaf{AP: 3, Bits: 14, NG: true}
	ro    = api.Leaf{AP: 2, Bits: 14, NG: true}
)

func block(size int, va uint32, pa uint64) api.Trans {
	b := api.Trans{Size: size, VA: va, PA: pa, Domain: 1, Leaf: rw}
	if size == api.Super {
		b.Domain = 0
	}
	return b
}

func in(b api.Trans, domain int) api.Trans {
	b.Domain = domain
	return b
}

func is(t *testing.T, what string, got, want api.Errno) {
	t.Helper()
	if got != want {
		t.Errorf("%s answers %d, not %d", what, got, want)
	}
}

// made: a desk of the examples, with one root.
func made(t *testing.T, n int) (*desk, uint64) {
	t.Helper()
	d := newDesk(t, plain, 8, 248, n)
	root, e := d.Root()
	is(t, "Root", e, api.OK)
	return d, root
}

// stepsWere: those of the last call.
func (d *desk) stepsWere(l ...step) {
	d.t.Helper()
	var got []step
	for _, e := range d.last {
		got = append(got, step{e.Kind, e.Addr, e.Value})
	}
	if !slices.Equal(got, l) {
		d.t.Errorf("the steps were %x, not %x", got, l)
	}
}

// pokes: count words one behind the other.
func pokes(at uint64, w uint32, count int) []step {
	var l []step
	for i := range count {
		l = append(l, poke(at+4*uint64(i), w))
	}
	return l
}

// TestExamples: the chapter's table, one behind the other, each with its steps.
func TestExamples(t *testing.T) {
	d := newDesk(t, plain, 8, 248, 2)
	root, e := d.Root()
	is(t, "Root", e, api.OK)
	if root != 0x8000 {
		t.Fatalf("Root %#x", root)
	}
	d.stepsWere(wipe(8, 1))
	is(t, "Put", d.Put(root, block(api.Small, 0x1000, 0x20000)), api.OK)
	d.stepsWere(wipe(9, 1), poke(0x8000, 0x00009021), poke(0x9004, 0x0002087E))
	is(t, "Put", d.Put(root, block(api.Section, 0, 0)), api.ErrPut)
	is(t, "Put", d.Put(root, in(block(api.Small, 0x2000, 0), 2)), api.ErrPut)
	large := block(api.Large, 0x10000, 0x30000)
	is(t, "Put", d.Put(root, large), api.OK)
	d.stepsWere(pokes(0x9040, 0x0003183D, 16)...)
	is(t, "Put", d.Put(root, block(api.Small, 0x40000000, 0)), api.ErrArg)
	is(t, "Put", d.Put(0x9000), api.ErrRoot)
	is(t, "Put", d.Put(root), api.OK)
	d.stepsWere()
	if b, ok := d.e.Find(root, 0x1FFFF); b != large || !ok {
		t.Errorf("Find %+v %v", b, ok)
	}
	is(t, "Cut", d.Cut(root, 3, 0x1000, 0x1FFF), api.ErrCut)
	is(t, "Cut", d.Cut(root, 3, 0x5000), api.ErrCut)
	is(t, "Change", d.Change(root, 3, ro, 0x1ABC), api.OK)
	d.stepsWere(poke(0x9004, 0), dropMva(0x1003), poke(0x9004, 0x0002086E))
	is(t, "Cut", d.Cut(root, 3, 0x1000), api.OK)
	d.stepsWere(poke(0x9004, 0), dropMva(0x1003))
	is(t, "Free", d.Free(root), api.ErrPut)
	if l := d.e.Tables(); !slices.Equal(l, []int{36}) {
		t.Errorf("Tables %v", l)
	}
	is(t, "Empty", d.Empty(root, 3), api.OK)
	d.stepsWere(append(pokes(0x9040, 0, 16), dropAsid(3), poke(0x8000, 0))...)
	is(t, "Free", d.Free(root), api.OK)
	if len(d.e.Roots()) != 0 || len(d.e.Tables()) != 0 || d.p.Free() != 248 {
		t.Errorf("left: %v %v %d", d.e.Roots(), d.e.Tables(), d.p.Free())
	}
}

// TestNew: F14.1.
func TestNew(t *testing.T) {
	m, _ := machine.New(plain)
	pool := func(first, count int) *frames.Pool {
		p, e := frames.New(first, count)
		if e != api.OK {
			t.Fatal(e)
		}
		return p
	}
	for _, c := range []struct {
		m    *machine.Machine
		p    *frames.Pool
		n    int
		want api.Errno
	}{
		{nil, pool(8, 8), 2, api.ErrNil},
		{m, nil, 2, api.ErrNil},
		{nil, nil, 2, api.ErrNil},
		{nil, pool(8, 8), 0, api.ErrNil},
		{m, nil, 8, api.ErrNil},
		{nil, pool(8, 1000), 2, api.ErrNil},
		{m, pool(8, 8), 0, api.ErrArg},
		{m, pool(8, 8), -1, api.ErrArg},
		{m, pool(8, 8), 8, api.ErrArg},
		{m, pool(8, 8), math.MinInt, api.ErrArg},
		{m, pool(8, 8), math.MaxInt, api.ErrArg},
		{m, pool(8, 248), 1, api.OK},
		{m, pool(8, 248), 2, api.OK},
		{m, pool(8, 248), 7, api.OK},
		{m, pool(0, 256), 3, api.OK},
		{m, pool(8, 249), 2, api.ErrArg},
		{m, pool(0, 257), 2, api.ErrArg},
		{m, pool(255, 1), 2, api.OK},
		{m, pool(256, 1), 2, api.ErrArg},
		{m, pool(api.LastFrame, 1), 2, api.ErrArg},
		{m, pool(256, 0), 2, api.OK}, // no frame of it is none of the machine's
		{m, pool(api.LastFrame, 0), 2, api.OK},
		{m, pool(0, 0), 2, api.OK},
	} {
		e, err := tables.New(c.m, c.p, c.n)
		if err != c.want || (e != nil) != (err == api.OK) {
			t.Errorf("%+v: %v %d", c, e, err)
		}
		if err == api.OK && (len(e.Roots()) != 0 || len(e.Tables()) != 0) {
			t.Errorf("%+v: roots %v, tables %v", c, e.Roots(), e.Tables())
		}
	}
	if l := m.Events(); len(l) != 0 {
		t.Errorf("steps %v", l)
	}
}

// TestRoot: F14.2: how many frames, where they stand, that they are wiped, and when there are none.
func TestRoot(t *testing.T) {
	for n := 1; n <= 7; n++ {
		d := newDesk(t, plain, 9, 7, n) // 9 to 15
		f, _ := d.others(7, 1)
		d.othersDrop(f, 7) // no byte of them is 0 now
		want, firsts := wipe(9, 1), []uint64{0x9000, 0xa000, 0xb000, 0xc000, 0xd000, 0xe000, 0xf000}
		if n == 1 {
			want, firsts = wipe(10, 2), []uint64{0xa000, 0xc000, 0xe000}
		}
		for i, first := range firsts {
			root, e := d.Root()
			if root != first || e != api.OK {
				t.Errorf("n %d: %#x %d", n, root, e)
			}
			if i == 0 {
				d.stepsWere(want)
			}
			if l := d.e.Blocks(root); len(l) != 0 {
				t.Errorf("n %d: %v", n, l)
			}
		}
		root, e := d.Root()
		if root != 0 || e != api.ErrFrames {
			t.Errorf("n %d: %#x %d", n, root, e)
		}
		if !slices.Equal(d.e.Roots(), firsts) {
			t.Errorf("n %d: %x", n, d.e.Roots())
		}
		for _, i := range []int{1, 0, 2} {
			is(t, "Free", d.Free(firsts[i]), api.OK)
			d.stepsWere()
		}
		if root, e := d.Root(); root != firsts[0] || e != api.OK {
			t.Errorf("n %d: %#x %d, not the lowest again", n, root, e)
		}
	}
}

// TestRootOfTwo: with n 1 two frames that do not stand at an even one are none.
func TestRootOfTwo(t *testing.T) {
	d := newDesk(t, plain, 9, 2, 1)
	if root, e := d.Root(); root != 0 || e != api.ErrFrames {
		t.Errorf("%#x %d", root, e)
	}
	d = newDesk(t, plain, 10, 1, 1)
	if root, e := d.Root(); root != 0 || e != api.ErrFrames {
		t.Errorf("%#x %d", root, e)
	}
	d = newDesk(t, plain, 10, 0, 3)
	if root, e := d.Root(); root != 0 || e != api.ErrFrames {
		t.Errorf("%#x %d", root, e)
	}
}

// noRoots: what is no root beside one at 0x8000 and a table in the frame 9.
var noRoots = []uint64{0, 4, 0x7000, 0x8004, 0x8001, 0x8400, 0x9000, 0xa000, 8, 1<<32 + 0x8000, math.MaxUint64}

// TestNoRoot: each call says so ahead of all else.
func TestNoRoot(t *testing.T) {
	d, root := made(t, 2)
	good, bad := block(api.Small, 0x1000, 0x20000), block(api.Small, 0x1001, 0)
	is(t, "Put", d.Put(root, good), api.OK)
	for _, r := range noRoots {
		is(t, "Free", d.Free(r), api.ErrRoot)
		is(t, "Put", d.Put(r), api.ErrRoot)
		is(t, "Put", d.Put(r, good), api.ErrRoot)
		is(t, "Put", d.Put(r, bad), api.ErrRoot)
		is(t, "Cut", d.Cut(r, 3), api.ErrRoot)
		is(t, "Cut", d.Cut(r, 256, 0x1000), api.ErrRoot)
		is(t, "Change", d.Change(r, 3, rw), api.ErrRoot)
		is(t, "Change", d.Change(r, -1, api.Leaf{}, 0x1000), api.ErrRoot)
		is(t, "Empty", d.Empty(r, 3), api.ErrRoot)
		is(t, "Empty", d.Empty(r, -1), api.ErrRoot)
		if b, ok := d.e.Find(r, 0x1000); b != (api.Trans{}) || ok {
			t.Errorf("Find %#x: %+v", r, b)
		}
		if l := d.e.Blocks(r); len(l) != 0 {
			t.Errorf("Blocks %#x: %+v", r, l)
		}
	}
	is(t, "Empty", d.Empty(root, 3), api.OK)
	is(t, "Free", d.Free(root), api.OK)
	is(t, "Free", d.Free(root), api.ErrRoot)
	is(t, "Put", d.Put(root, good), api.ErrRoot)
}

// TestRootOfTwoIsOne: the second frame of a root is none.
func TestRootOfTwoIsOne(t *testing.T) {
	d, root := made(t, 1)
	is(t, "Free", d.Free(root+4096), api.ErrRoot)
	is(t, "Put", d.Put(root, block(api.Section, 0x7ff00000, 0)), api.OK)
	d.stepsWere(poke(root+4*2047, word(block(api.Section, 0, 0))))
	is(t, "Free", d.Free(root), api.ErrPut)
	is(t, "Cut", d.Cut(root, 0, 0x7fffffff), api.OK)
	is(t, "Free", d.Free(root), api.OK)
	if d.p.Free() != 248 {
		t.Errorf("%d frames are free", d.p.Free())
	}
}

// TestFree: F14.3: with a block of each size it is refused.
func TestFree(t *testing.T) {
	for size := api.Small; size <= api.Super; size++ {
		d, root := made(t, 2)
		other, _ := d.Root()
		is(t, "Put", d.Put(root, block(size, 0x1000000, 0)), api.OK)
		is(t, "Free", d.Free(root), api.ErrPut)
		d.stepsWere()
		is(t, "Free", d.Free(other), api.OK)
		d.stepsWere()
		is(t, "Cut", d.Cut(root, 1, 0x1000000), api.OK)
		is(t, "Free", d.Free(root), api.OK)
		d.stepsWere()
		if len(d.e.Roots()) != 0 || d.p.Free() != 248 {
			t.Errorf("left: %v, %d", d.e.Roots(), d.p.Free())
		}
	}
}

// TestFind: F14.9: at both ends of a block, and right beside them.
func TestFind(t *testing.T) {
	d, root := made(t, 2)
	other, _ := d.Root()
	l := []api.Trans{
		block(api.Small, 0x1000, 0x20000), block(api.Small, 0x2000, 0x20000), block(api.Large, 0x20000, 0x30000),
		block(api.Section, 0x100000, 0x100000), block(api.Super, 0x2000000, 0xff_0000_0000), block(api.Small, 0x3ffff000, 0),
	}
	is(t, "Put", d.Put(root, l[4], l[1], l[0], l[5], l[3], l[2]), api.OK)
	if got := d.e.Blocks(root); !slices.Equal(got, l) {
		t.Errorf("Blocks %+v", got)
	}
	for _, c := range []struct {
		va   uint32
		want int
	}{
		{0, -1}, {0xfff, -1}, {0x1000, 0}, {0x1fff, 0}, {0x2000, 1}, {0x2fff, 1}, {0x3000, -1},
		{0x1ffff, -1}, {0x20000, 2}, {0x2abcd, 2}, {0x2ffff, 2}, {0x30000, -1},
		{0xfffff, -1}, {0x100000, 3}, {0x1fffff, 3}, {0x200000, -1},
		{0x1ffffff, -1}, {0x2000000, 4}, {0x2ffffff, 4}, {0x3000000, -1},
		{0x3fffefff, -1}, {0x3ffff000, 5}, {0x3fffffff, 5}, {0x40000000, -1}, {math.MaxUint32, -1},
	} {
		b, ok := d.e.Find(root, c.va)
		if ok != (c.want >= 0) || ok && b != l[c.want] || !ok && b != (api.Trans{}) {
			t.Errorf("Find %#x: %+v %v", c.va, b, ok)
		}
		if b, ok := d.e.Find(other, c.va); ok || b != (api.Trans{}) {
			t.Errorf("Find %#x in the other root: %+v %v", c.va, b, ok)
		}
	}
}

// TestHandedOut: rule 4: what the lists' readers write into them, and into their spare room, is seen by nobody.
func TestHandedOut(t *testing.T) {
	d, root := made(t, 2)
	other, _ := d.Root()
	is(t, "Put", d.Put(root, block(api.Small, 0x1000, 0x20000), block(api.Small, 0x2000, 0x20000), block(api.Small, 0x100000, 0)), api.OK)
	is(t, "Put", d.Put(other, block(api.Large, 0, 0)), api.OK)
	for range 3 {
		for _, r := range []uint64{root, other} {
			l := d.e.Blocks(r)
			clear(l[:cap(l)])
		}
		roots, numbers := d.e.Roots(), d.e.Tables()
		clear(roots[:cap(roots)])
		clear(numbers[:cap(numbers)])
		d.same("spoiled")
		is(t, "Put", d.Put(root, block(api.Small, 0x5000, 0)), api.OK)
		is(t, "Cut", d.Cut(root, 1, 0x5000), api.OK)
	}
}

// TestHandedIn: rule 4: lists are not changed, their spare room neither, and not kept.
func TestHandedIn(t *testing.T) {
	d, root := made(t, 2)
	room := []api.Trans{block(api.Small, 0x3000, 0x3000), block(api.Section, 0x300000, 0), block(api.Small, 0x1000, 0x1000), block(api.Small, 0x2000, 0x2000), block(api.Super, 0x1000000, 0)}
	kept := slices.Clone(room)
	for _, call := range []func(uint64, ...api.Trans) api.Errno{d.e.Fits, d.e.Put, d.e.Put} {
		call(root, room[:4]...)
		if !slices.Equal(room, kept) {
			t.Fatalf("%+v", room)
		}
	}
	want := []api.Trans{kept[2], kept[3], kept[0], kept[1]}
	clear(room)
	if l := d.e.Blocks(root); !slices.Equal(l, want) {
		t.Errorf("%+v", l)
	}
	vas := []uint32{0x3000, 0x1000, 0x2000, 0x7777}
	old := slices.Clone(vas)
	is(t, "Change", d.e.Change(root, 1, ro, vas[:3]...), api.OK)
	is(t, "Change", d.e.Change(root, 1, ro, vas...), api.ErrCut)
	if !slices.Equal(vas, old) {
		t.Errorf("%x", vas)
	}
	is(t, "Cut", d.e.Cut(root, 1, vas...), api.ErrCut)
	is(t, "Cut", d.e.Cut(root, 1, vas[:2]...), api.OK)
	if !slices.Equal(vas, old) {
		t.Errorf("%x", vas)
	}
	clear(vas)
	want[1].Leaf = ro
	if l := d.e.Blocks(root); !slices.Equal(l, []api.Trans{want[1], kept[1]}) {
		t.Errorf("%+v", l)
	}
}

// TestApart: two editors over one pool and one machine share nothing but these.
func TestApart(t *testing.T) {
	d, root := made(t, 2)
	o, err := tables.New(d.m, d.p, 3)
	is(t, "New", err, api.OK)
	is(t, "Put", o.Put(root), api.ErrRoot)
	other, err := o.Root()
	is(t, "Root", err, api.OK)
	if other != 0x9000 {
		t.Errorf("%#x", other)
	}
	is(t, "Put", d.e.Put(other), api.ErrRoot)
	is(t, "Put", d.e.Put(root, block(api.Small, 0, 0)), api.OK)
	is(t, "Put", o.Put(other, in(block(api.Small, 0, 0), 2)), api.OK)
	if a, b := d.e.Tables(), o.Tables(); !slices.Equal(a, []int{40}) || !slices.Equal(b, []int{44}) {
		t.Errorf("%v %v", a, b)
	}
	is(t, "Put", o.Put(other, block(api.Small, 0x20000000, 0)), api.ErrArg)
	is(t, "Put", d.e.Put(root, block(api.Small, 0x20000000, 0)), api.OK)
}

// TestBroken: whoever drops the editor's frames, or writes into them: the calls end and do not panic.
func TestBroken(t *testing.T) {
	d, root := made(t, 2)
	other, _ := d.Root()
	is(t, "Put", d.Put(root, block(api.Small, 0x1000, 0x20000), block(api.Small, 0x100000, 0x20000)), api.OK)
	d.p.Drop(8, 1)
	d.p.Drop(10, 1)
	for f := 8; f < 11; f++ {
		for i := range uint64(1024) {
			d.m.Poke(uint64(f)*4096+4*i, 0xffffffff)
		}
	}
	again, _ := d.e.Root()
	for _, r := range []uint64{root, other, again} {
		d.e.Put(r, block(api.Small, 0x200000, 0x20000), block(api.Large, 0x310000, 0x20000))
		d.e.Change(r, 1, ro, 0x1000)
		d.e.Cut(r, 1, 0x1000)
		d.e.Find(r, 0x100000)
		d.e.Empty(r, 1)
		d.e.Free(r)
		d.e.Free(r)
	}
	d.e.Root()
	d.e.Roots()
	d.e.Tables()
}
