package tables_test

import (
	"cmp"
	"encoding/binary"
	"maps"
	"slices"
	"testing"

	"atlas/api"
	"atlas/desc"
	"atlas/frames"
	"atlas/machine"
	"atlas/tables"
)

// step: an event, but for what is dirty behind it.
type step struct {
	kind  int
	addr  uint64
	value uint32
}

func poke(a uint64, w uint32) step { return step{api.EvPoke, a, w} }

func wipe(first, count int) step { return step{api.EvWipe, uint64(first), uint32(count)} }

func dropMva(w uint32) step { return step{api.EvDrop, api.TlbiMva, w} }

func dropAsid(asid int) step { return step{api.EvDrop, api.TlbiAsid, uint32(asid)} }

// model: an editor in the chapter's words: it goes through all blocks for each question, and writes into a memory of its own.
type model struct {
	n      int
	pool   *frames.Pool
	slab   *frames.Slab
	roots  map[uint64]*sheet
	memory []uint32
	steps  []step
}

// sheet: a root's blocks, in no order, and its tables by MiB: the number and the domain.
type sheet struct {
	blocks []api.Trans
	tables map[uint32][2]int
}

func newModel(all api.Run, words, n int) *model {
	p, _ := frames.New(all.First, all.Count)
	s, _ := frames.NewSlab(p)
	return &model{n: n, pool: p, slab: s, roots: map[uint64]*sheet{}, memory: make([]uint32, words)}
}

func (x *model) poke(a uint64, w uint32) {
	x.steps = append(x.steps, poke(a, w))
	x.memory[a/4] = w
}

func (x *model) wipe(first, count int) {
	x.steps = append(x.steps, wipe(first, count))
	clear(x.memory[first*1024 : (first+count)*1024])
}

func (x *model) root() (uint64, api.Errno) {
	k := 1
	if x.n == 1 {
		k = 2
	}
	f, e := x.pool.Take(k, k)
	if e != api.OK {
		return 0, e
	}
	x.wipe(f, k)
	x.roots[4096*uint64(f)] = &sheet{tables: map[uint32][2]int{}}
	return 4096 * uint64(f), api.OK
}

func (x *model) free(root uint64) api.Errno {
	s := x.roots[root]
	switch {
	case s == nil:
		return api.ErrRoot
	case len(s.blocks) > 0:
		return api.ErrPut
	}
	delete(x.roots, root)
	k := 1
	if x.n == 1 {
		k = 2
	}
	x.pool.Drop(int(root/4096), k)
	return api.OK
}

func meet(a, b api.Trans) bool {
	return uint64(a.VA) < uint64(b.VA)+desc.Bytes(b.Size) && uint64(b.VA) < uint64(a.VA)+desc.Bytes(a.Size)
}

func page(b api.Trans) bool { return b.Size == api.Small || b.Size == api.Large }

// refused: F14.4, up to ErrPut.
func (x *model) refused(root uint64, l []api.Trans) api.Errno {
	s := x.roots[root]
	if s == nil {
		return api.ErrRoot
	}
	for _, b := range l {
		if !desc.Right(b) || !b.Leaf.NG || uint64(b.VA)+desc.Bytes(b.Size)-1 >= 1<<(32-x.n) {
			return api.ErrArg
		}
	}
	for i, b := range l {
		for _, o := range s.blocks {
			if meet(b, o) {
				return api.ErrPut
			}
		}
		for j, o := range l {
			if i != j && meet(b, o) {
				return api.ErrPut
			}
		}
		if !page(b) {
			continue
		}
		if table, ok := s.tables[b.VA>>20]; ok && table[1] != b.Domain {
			return api.ErrPut
		}
		for _, o := range l[:i] {
			if page(o) && o.VA>>20 == b.VA>>20 && o.Domain != b.Domain {
				return api.ErrPut
			}
		}
	}
	return api.OK
}

// take: F14.4's tables: by the place in l, the number and whether its frame was none of the slab's.
func (x *model) take(root uint64, l []api.Trans) (map[int]int, map[int]bool, api.Errno) {
	numbers, news, megs := map[int]int{}, map[int]bool{}, map[uint32]bool{}
	var order []int
	for i, b := range l {
		if _, ok := x.roots[root].tables[b.VA>>20]; !page(b) || ok || megs[b.VA>>20] {
			continue
		}
		before := x.slab.Frames()
		number, e := x.slab.Take()
		if e != api.OK {
			for _, number := range slices.Backward(order) {
				x.slab.Drop(number)
			}
			return nil, nil, e
		}
		order = append(order, number)
		megs[b.VA>>20], numbers[i], news[i] = true, number, !slices.Contains(before, number/4)
	}
	return numbers, news, api.OK
}

func (x *model) fits(root uint64, l []api.Trans) api.Errno {
	e := x.refused(root, l)
	if e != api.OK {
		return e
	}
	numbers, _, e := x.take(root, l)
	for _, number := range numbers {
		x.slab.Drop(number)
	}
	return e
}

func (x *model) put(root uint64, l []api.Trans) api.Errno {
	e := x.refused(root, l)
	if e != api.OK {
		return e
	}
	numbers, news, e := x.take(root, l)
	if e != api.OK {
		return e
	}
	s := x.roots[root]
	for i, b := range l {
		if number, ok := numbers[i]; ok {
			if news[i] {
				x.wipe(number/4, 1)
			}
			w, _ := desc.Encode1(api.Entry{Kind: api.DTable, Base: 1024 * uint64(number), Domain: b.Domain})
			x.poke(root+4*uint64(b.VA>>20), w)
			s.tables[b.VA>>20] = [2]int{number, b.Domain}
		}
		s.blocks = append(s.blocks, b)
		x.lay(root, b, word(b))
	}
	return api.OK
}

func word(b api.Trans) uint32 {
	entry, _ := desc.Entry(b)
	encode := desc.Encode1
	if page(b) {
		encode = desc.Encode2
	}
	w, _ := encode(entry)
	return w
}

// descriptors: the addresses of a block's.
func (x *model) descriptors(root uint64, b api.Trans) []uint64 {
	at := root + 4*uint64(b.VA>>20)
	if page(b) {
		at = 1024*uint64(x.roots[root].tables[b.VA>>20][0]) + 4*uint64(b.VA>>12&255)
	}
	var l []uint64
	for i := range desc.Repeats(b.Size) {
		l = append(l, at+4*uint64(i))
	}
	return l
}

func (x *model) lay(root uint64, b api.Trans, w uint32) {
	for _, a := range x.descriptors(root, b) {
		x.poke(a, w)
	}
}

// blockOf: the place of the block with va, or -1.
func (s *sheet) blockOf(va uint32) int {
	return slices.IndexFunc(s.blocks, func(b api.Trans) bool {
		return va >= b.VA && uint64(va) < uint64(b.VA)+desc.Bytes(b.Size)
	})
}

// cutRefused: F14.6's ErrCut.
func (s *sheet) cutRefused(vas []uint32) bool {
	seen := map[int]bool{}
	for _, va := range vas {
		i := s.blockOf(va)
		if i < 0 || seen[i] {
			return true
		}
		seen[i] = true
	}
	return false
}

func (x *model) unhang(root uint64, meg uint32) {
	s := x.roots[root]
	x.poke(root+4*uint64(meg), 0)
	x.slab.Drop(s.tables[meg][0])
	delete(s.tables, meg)
}

func (x *model) cut(root uint64, asid int, vas []uint32) api.Errno {
	s := x.roots[root]
	switch {
	case s == nil:
		return api.ErrRoot
	case asid < 0 || asid > 255:
		return api.ErrArg
	case s.cutRefused(vas):
		return api.ErrCut
	}
	for _, va := range vas {
		i := s.blockOf(va)
		b := s.blocks[i]
		x.lay(root, b, 0)
		x.steps = append(x.steps, dropMva(b.VA+uint32(asid)))
		s.blocks = slices.Delete(s.blocks, i, i+1)
		left := func(o api.Trans) bool { return page(o) && o.VA>>20 == b.VA>>20 }
		if page(b) && !slices.ContainsFunc(s.blocks, left) {
			x.unhang(root, b.VA>>20)
		}
	}
	return api.OK
}

func (x *model) change(root uint64, asid int, leaf api.Leaf, vas []uint32) api.Errno {
	s := x.roots[root]
	switch {
	case s == nil:
		return api.ErrRoot
	case asid < 0 || asid > 255, leaf.AP < 0 || leaf.AP > 7 || leaf.Bits > 63 || !leaf.NG:
		return api.ErrArg
	case s.cutRefused(vas):
		return api.ErrCut
	}
	for _, va := range vas {
		b := &s.blocks[s.blockOf(va)]
		x.lay(root, *b, 0)
		x.steps = append(x.steps, dropMva(b.VA+uint32(asid)))
		b.Leaf = leaf
		x.lay(root, *b, word(*b))
	}
	return api.OK
}

func (x *model) empty(root uint64, asid int) api.Errno {
	s := x.roots[root]
	switch {
	case s == nil:
		return api.ErrRoot
	case asid < 0 || asid > 255:
		return api.ErrArg
	case len(s.blocks) == 0:
		return api.OK
	}
	for _, b := range s.rising() {
		x.lay(root, b, 0)
	}
	s.blocks = nil
	x.steps = append(x.steps, dropAsid(asid))
	for _, meg := range slices.Sorted(maps.Keys(s.tables)) {
		x.unhang(root, meg)
	}
	return api.OK
}

func (s *sheet) rising() []api.Trans {
	l := slices.Clone(s.blocks)
	slices.SortFunc(l, func(a, b api.Trans) int { return cmp.Compare(a.VA, b.VA) })
	return l
}

// desk: an editor with its machine and its pool, and the model beside it; each call goes to both.
type desk struct {
	t     *testing.T
	m     *machine.Machine
	p     *frames.Pool
	e     *tables.Editor
	x     *model
	last  []api.Event // of the last call
	quiet bool        // the memory is not held against the model's behind each call
}

func newDesk(t *testing.T, c api.Config, first, count, n int) *desk {
	t.Helper()
	m, err := machine.New(c)
	if err != api.OK {
		t.Fatal(err)
	}
	p, err := frames.New(first, count)
	if err != api.OK {
		t.Fatal(err)
	}
	e, err := tables.New(m, p, n)
	if err != api.OK || e == nil {
		t.Fatal(e, err)
	}
	d := &desk{t: t, m: m, p: p, e: e, x: newModel(api.Run{First: first, Count: count}, 1024*c.Frames, n)}
	d.same("New")
	return d
}

// same: the steps of the call, and all that can be looked at, are the model's.
func (d *desk) same(what ...any) {
	d.t.Helper()
	d.last = d.m.Events()
	var got []step
	for _, e := range d.last {
		got = append(got, step{e.Kind, e.Addr, e.Value})
	}
	if !slices.Equal(got, d.x.steps) {
		d.t.Fatalf("%v: the steps are %x, not %x", what, got, d.x.steps)
	}
	d.x.steps = nil
	roots := slices.Sorted(maps.Keys(d.x.roots))
	if l := d.e.Roots(); !slices.Equal(l, roots) {
		d.t.Fatalf("%v: Roots %x, not %x", what, l, roots)
	}
	if l := d.e.Tables(); !slices.Equal(l, d.x.slab.Tables()) {
		d.t.Fatalf("%v: Tables %v, not %v", what, l, d.x.slab.Tables())
	}
	if l := d.p.Runs(); !slices.Equal(l, d.x.pool.Runs()) {
		d.t.Fatalf("%v: the pool has %v, not %v", what, l, d.x.pool.Runs())
	}
	for root, s := range d.x.roots {
		d.sameRoot(root, s, what)
	}
	if !d.quiet {
		d.sameMemory(what)
	}
}

func (d *desk) sameRoot(root uint64, s *sheet, what []any) {
	d.t.Helper()
	l := s.rising()
	if got := d.e.Blocks(root); !slices.Equal(got, l) {
		d.t.Fatalf("%v: Blocks(%#x) %+v, not %+v", what, root, got, l)
	}
	for _, b := range l {
		end := b.VA + uint32(desc.Bytes(b.Size))
		for _, va := range []uint32{b.VA - 1, b.VA, b.VA + 0xabc, end - 1, end} {
			var want api.Trans
			i := s.blockOf(va)
			if i >= 0 {
				want = s.blocks[i]
			}
			if got, ok := d.e.Find(root, va); got != want || ok != (i >= 0) {
				d.t.Fatalf("%v: Find(%#x, %#x) %+v %v, not %+v", what, root, va, got, ok, want)
			}
		}
	}
}

func (d *desk) sameMemory(what []any) {
	d.t.Helper()
	for f := range d.m.Frames() {
		b, _ := d.m.Frame(f)
		for i := range 1024 {
			if w := binary.LittleEndian.Uint32(b[4*i:]); w != d.x.memory[1024*f+i] {
				d.t.Fatalf("%v: the word at %#x is %#x, not %#x", what, 4096*f+4*i, w, d.x.memory[1024*f+i])
			}
		}
	}
}

// hold: an answer is the model's, and all behind it.
func (d *desk) hold(got, want api.Errno, what ...any) api.Errno {
	d.t.Helper()
	if got != want {
		d.t.Fatalf("%v answers %d, not %d", what, got, want)
	}
	d.same(what...)
	return got
}

func (d *desk) Root() (uint64, api.Errno) {
	d.t.Helper()
	root, e := d.e.Root()
	want, err := d.x.root()
	if root != want {
		d.t.Fatalf("Root %#x, not %#x", root, want)
	}
	return root, d.hold(e, err, "Root")
}

func (d *desk) Free(root uint64) api.Errno {
	d.t.Helper()
	return d.hold(d.e.Free(root), d.x.free(root), "Free", root)
}

func (d *desk) Fits(root uint64, l ...api.Trans) api.Errno {
	d.t.Helper()
	return d.hold(d.e.Fits(root, l...), d.x.fits(root, l), "Fits", root, l)
}

// Put: with Fits ahead of it, which must say the same.
func (d *desk) Put(root uint64, l ...api.Trans) api.Errno {
	d.t.Helper()
	fits := d.Fits(root, l...)
	e := d.hold(d.e.Put(root, l...), d.x.put(root, l), "Put", root, l)
	if fits != e {
		d.t.Fatalf("Fits %d, Put %d", fits, e)
	}
	return e
}

func (d *desk) Cut(root uint64, asid int, vas ...uint32) api.Errno {
	d.t.Helper()
	return d.hold(d.e.Cut(root, asid, vas...), d.x.cut(root, asid, vas), "Cut", root, asid, vas)
}

func (d *desk) Change(root uint64, asid int, leaf api.Leaf, vas ...uint32) api.Errno {
	d.t.Helper()
	return d.hold(d.e.Change(root, asid, leaf, vas...), d.x.change(root, asid, leaf, vas), "Change", root, asid, leaf, vas)
}

func (d *desk) Empty(root uint64, asid int) api.Errno {
	d.t.Helper()
	return d.hold(d.e.Empty(root, asid), d.x.empty(root, asid), "Empty", root, asid)
}

// others: somebody else takes frames of the pool and leaves them full of what is no zero.
func (d *desk) others(n, align int) (int, api.Errno) {
	d.t.Helper()
	f, e := d.p.Take(n, align)
	d.x.pool.Take(n, align)
	if e == api.OK {
		for i := range 1024 * n {
			d.m.Poke(4096*uint64(f)+4*uint64(i), 0xdeadbeef)
			d.x.memory[1024*f+i] = 0xdeadbeef
		}
	}
	d.m.Events()
	d.same("others")
	return f, e
}

// othersDrop: and gives them back.
func (d *desk) othersDrop(f, n int) {
	d.t.Helper()
	d.p.Drop(f, n)
	d.x.pool.Drop(f, n)
	d.same("others")
}
