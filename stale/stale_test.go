package stale_test

import (
	"fmt"
	"maps"
	"math"
	"math/rand"
	"slices"
	"testing"

	"atlas/api"
	"atlas/desc"
	"atlas/ram"
	"atlas/stale"
	"atlas/tlb"
	"atlas/walk"
)

const (
	page     = 1 << 12
	mib      = 1 << 20
	last     = math.MaxUint32
	lastPage = 1<<20 - 1
)

var (
	bools = []bool{false, true}

	// noAsids: numbers that are no ASID.
	noAsids = []int{math.MinInt, math.MinInt + 7, math.MinInt32, -256, -249, -2, api.AnyAsid, 256, 263, 1<<32 + 7, math.MaxInt - 1, math.MaxInt}

	sizes = []int{api.Small, api.Large, api.Section, api.Super}

	// bytes: of a block, by its size (DOC.md, rule 7).
	bytes = map[int]uint64{api.Small: 4096, api.Large: 65536, api.Section: 1048576, api.Super: 16777216}
)

// memory: words by their addresses; all others that lie below size are 0, beyond it there is nothing.
type memory struct {
	words map[uint64]uint32
	size  uint64
	next  uint64 // where the next second-level table goes
}

func newMemory() *memory {
	return &memory{words: map[uint64]uint32{}, size: 1 << 40, next: 0x100000}
}

func (m *memory) Word(pa uint64) (uint32, api.Errno) {
	if pa >= m.size {
		return 0xffffffff, api.ErrBus
	}
	return m.words[pa], api.OK
}

// copied: the same words, apart.
func (m *memory) copied() *memory {
	return &memory{words: maps.Clone(m.words), size: m.size, next: m.next}
}

// spots: where the descriptors of a block stand, by the context; of a page in a MiB without a table of the block's domain, one is laid.
func (m *memory) spots(c api.Context, b api.Trans) []uint64 {
	first := walk.Reads(nil, c, b.VA)[0]
	spot := first
	if b.Size == api.Small || b.Size == api.Large {
		e := desc.Decode1(m.words[first])
		if e.Kind != api.DTable || e.Domain != b.Domain {
			e = api.Entry{Kind: api.DTable, Base: m.next, Domain: b.Domain}
			m.next += api.TableBytes
			m.words[first], _ = desc.Encode1(e)
		}
		spot = e.Base + uint64(4*(b.VA/page%256))
	}
	l := []uint64{spot}
	if b.Size == api.Large || b.Size == api.Super {
		for i := uint64(1); i < 16; i++ {
			l = append(l, spot+4*i)
		}
	}
	return l
}

// word: the descriptor of a block.
func word(b api.Trans) uint32 {
	e, err := desc.Entry(b)
	if err != api.OK {
		panic(fmt.Sprintf("%+v is not right", b))
	}
	w, err := desc.Encode1(e)
	if err != api.OK {
		w, _ = desc.Encode2(e)
	}
	return w
}

func (m *memory) lay(c api.Context, l ...api.Trans) {
	for _, b := range l {
		for _, at := range m.spots(c, b) {
			m.words[at] = word(b)
		}
	}
}

func (m *memory) cut(c api.Context, l ...api.Trans) {
	for _, b := range l {
		for _, at := range m.spots(c, b) {
			m.words[at] = 0
		}
	}
}

// transAt: a right translation of that size.
func transAt(size int, va uint32, ng bool) api.Trans {
	b := api.Trans{Size: size, VA: va, PA: 0x5000000, Domain: 3, Leaf: api.Leaf{AP: 3, Bits: 14, NG: ng}}
	if size == api.Super {
		b.Domain = 0
	}
	return b
}

// of: the block of a translation, by the ASID for which it is found.
func of(b api.Trans, asid int) api.Block {
	if !b.Leaf.NG {
		asid = api.AnyAsid
	}
	return api.Block{Asid: asid, Trans: b}
}

// asAsid: a context like another one, with an ASID.
func asAsid(c api.Context, asid int) api.Context {
	c.Asid = asid
	return c
}

// plain: all addresses go through one table.
var plain = api.Context{On: true, Base0: 0x4000, DACR: 5, Asid: 7}

// key: a text by which blocks stand in their order.
func key(b api.Block) string {
	t := b.Trans
	return fmt.Sprintf("%04d %d %010d %013d %02d %d %02d %t %t", b.Asid+1, t.Size, t.VA, t.PA, t.Domain, t.Leaf.AP, t.Leaf.Bits, t.Leaf.NG, t.Leaf.XN)
}

func lessByKey(a, b api.Block) int {
	switch x, y := key(a), key(b); {
	case x < y:
		return -1
	case x > y:
		return 1
	}
	return 0
}

// twin: a tracker, and what must be known to it. Each call is made of the one, and held against the other.
type twin struct {
	*testing.T
	x      *stale.Tracker
	known  map[api.Block]bool
	judges map[int]api.Context
}

func newTwin(t *testing.T) *twin {
	return &twin{T: t, x: stale.New(), known: map[api.Block]bool{}, judges: map[int]api.Context{}}
}

// inOrder: the known blocks.
func (p *twin) inOrder() []api.Block {
	return slices.SortedFunc(maps.Keys(p.known), lessByKey)
}

func holds(b api.Block, asid int) bool { return b.Asid == asid || b.Asid == -1 }

func liesOver(b api.Block, va uint32) bool {
	lo := uint64(b.Trans.VA)
	return uint64(va) >= lo && uint64(va) < lo+bytes[b.Trans.Size]
}

// strays: the pages of a block at which the walk does not find it, one by one.
func strays(m api.Words, c api.Context, b api.Trans) []uint64 {
	var l []uint64
	first := uint64(b.VA / page)
	for i := range bytes[b.Size] / page {
		found, f := walk.Walk(m, c, uint32(first+i)*page)
		if f.Kind != api.FNone || found != b {
			l = append(l, first+i)
		}
	}
	return l
}

// rooms: the greatest rooms of pages, one behind the other.
func rooms(pages map[uint64]bool) []api.Room {
	var l []api.Room
	for _, n := range slices.Sorted(maps.Keys(pages)) {
		if len(l) > 0 && l[len(l)-1].Hi+1 == n {
			l[len(l)-1].Hi = n
			continue
		}
		l = append(l, api.Room{Lo: n, Hi: n})
	}
	return l
}

// wantStale: F12.4, word by word.
func (p *twin) wantStale(m api.Words, asid int, va uint32) bool {
	c, ok := p.judges[asid]
	if !ok {
		return false
	}
	found, f := walk.Walk(m, c, va)
	for b := range p.known {
		if liesOver(b, va) && holds(b, asid) && (f.Kind != api.FNone || found != b.Trans) {
			return true
		}
	}
	return false
}

// told: what Dirty and Pages tell over a memory.
type told struct {
	dirts []api.Dirt
	pages map[int][]api.Room
}

// wantTold: F12.5 and F12.7, word by word.
func (p *twin) wantTold(m api.Words) told {
	want := told{pages: map[int][]api.Room{}}
	blocks := p.inOrder()
	for _, asid := range slices.Sorted(maps.Keys(p.judges)) {
		pages := map[uint64]bool{}
		for _, b := range blocks {
			if !holds(b, asid) {
				continue
			}
			gone := strays(m, p.judges[asid], b.Trans)
			for _, n := range gone {
				pages[n] = true
			}
			if len(gone) > 0 {
				want.dirts = append(want.dirts, api.Dirt{Asid: asid, Block: b})
			}
		}
		want.pages[asid] = rooms(pages)
	}
	return want
}

// state: all that the tracker tells over a memory, Stale at the known blocks' edges too.
func (p *twin) state(m api.Words) told {
	p.Helper()
	p.edges(m)
	return p.lists(m)
}

// lists: all that the tracker tells over a memory, but for Stale.
func (p *twin) lists(m api.Words) told {
	p.Helper()
	if got, want := p.x.Known(), p.inOrder(); !slices.Equal(got, want) {
		p.Fatalf("Known = %+v, want %+v", got, want)
	}
	for asid := -2; asid <= api.MaxAsid+2; asid++ {
		p.judge(asid)
	}
	want := p.wantTold(m)
	if got := p.x.Dirty(m); !slices.Equal(got, want.dirts) {
		p.Fatalf("Dirty = %+v, want %+v", got, want.dirts)
	}
	for asid := -1; asid <= api.MaxAsid+1; asid++ {
		if got := p.x.Pages(m, asid); !slices.Equal(got, want.pages[asid]) {
			p.Fatalf("Pages(%d) = %+v, want %+v", asid, got, want.pages[asid])
		}
	}
	for _, asid := range noAsids {
		p.judge(asid)
		if got := p.x.Pages(m, asid); len(got) != 0 {
			p.Fatalf("Pages(%d) = %+v", asid, got)
		}
	}
	p.dirtyAndPages(want)
	return want
}

func (p *twin) judge(asid int) {
	p.Helper()
	want, seen := p.judges[asid]
	if c, ok := p.x.Judge(asid); c != want || ok != seen {
		p.Fatalf("Judge(%d) = %+v, %v, want %+v, %v", asid, c, ok, want, seen)
	}
}

// dirtyAndPages: P1202, of what the tracker told.
func (p *twin) dirtyAndPages(l told) {
	p.Helper()
	in := func(d api.Dirt, r api.Room) bool {
		lo := uint64(d.Block.Trans.VA) / page
		hi := lo + bytes[d.Block.Trans.Size]/page - 1
		return lo <= r.Hi && r.Lo <= hi
	}
	empty := true
	for asid, list := range l.pages {
		empty = empty && len(list) == 0
		for _, r := range list {
			if !slices.ContainsFunc(l.dirts, func(d api.Dirt) bool { return d.Asid == asid && in(d, r) }) {
				p.Fatalf("the room %+v of the ASID %d lies in no dirty block", r, asid)
			}
		}
	}
	for _, d := range l.dirts {
		if !slices.ContainsFunc(l.pages[d.Asid], func(r api.Room) bool { return in(d, r) }) {
			p.Fatalf("%+v is dirty, but has no stale page", d)
		}
	}
	if empty != (len(l.dirts) == 0) {
		p.Fatalf("%d dirts, but pages %+v", len(l.dirts), l.pages)
	}
}

// edges: Stale at both ends of each known block, and on both sides of it, for each judged ASID and for such as have none.
func (p *twin) edges(m api.Words) {
	p.Helper()
	asids := append(slices.Collect(maps.Keys(p.judges)), 200, api.AnyAsid, api.MaxAsid+1)
	for b := range p.known {
		lo := b.Trans.VA
		hi := lo + uint32(bytes[b.Trans.Size]-1)
		for _, asid := range asids {
			p.stale(m, asid, lo-1, lo, lo+1, lo+page-1, lo+page, lo+15*mib, hi-page, hi-page+1, hi, hi+1)
		}
	}
}

func (p *twin) stale(m api.Words, asid int, vas ...uint32) {
	p.Helper()
	for _, va := range vas {
		want := p.wantStale(m, asid, va)
		if got := p.x.Stale(m, asid, va); got != want {
			p.Fatalf("Stale(%d, %#x) = %v", asid, va, got)
		}
	}
}

func (p *twin) see(m api.Words, c api.Context) api.Errno {
	p.Helper()
	want := api.OK
	switch {
	case c.On && (c.Asid < 0 || c.Asid > 255):
		want = api.ErrArg
	case c.On:
		for b := range walk.Blocks(m, c) {
			p.known[of(b, c.Asid)] = true
		}
		p.judges[c.Asid] = c
	}
	if e := p.x.See(m, c); e != want {
		p.Fatalf("See(%+v) = %d, want %d", c, e, want)
	}
	if c.On && want == api.OK {
		p.justSeen(m, c)
	}
	return want
}

// justSeen: P1204.
func (p *twin) justSeen(m api.Words, c api.Context) {
	p.Helper()
	known, dirts := map[api.Block]bool{}, map[api.Dirt]bool{}
	for _, b := range p.x.Known() {
		known[b] = true
	}
	for _, d := range p.x.Dirty(m) {
		dirts[d] = true
	}
	for b := range walk.Blocks(m, c) {
		if !known[of(b, c.Asid)] {
			p.Fatalf("%+v is seen, but not known", b)
		}
		if dirts[api.Dirt{Asid: c.Asid, Block: of(b, c.Asid)}] == walk.Same(m, c, b) {
			p.Fatalf("%+v is dirty, and walk.Same is %v", b, walk.Same(m, c, b))
		}
	}
}

// takes: does a dropping take a block, by chapter 10?
func takes(d api.Tlbi, b api.Block) bool {
	asid := d.Asid >= 0 && d.Asid <= 255
	switch d.Kind {
	case api.TlbiAll:
		return d.Va == 0 && d.Asid == 0
	case api.TlbiMva:
		return asid && liesOver(b, d.Va) && holds(b, d.Asid)
	case api.TlbiAsid:
		return asid && d.Va == 0 && b.Asid == d.Asid
	case api.TlbiMvaa:
		return d.Asid == 0 && liesOver(b, d.Va)
	}
	return false
}

func (p *twin) drop(d api.Tlbi) int {
	p.Helper()
	want := 0
	for b := range p.known {
		if takes(d, b) {
			delete(p.known, b)
			want++
		}
	}
	if got := p.x.Drop(d); got != want {
		p.Fatalf("Drop(%+v) = %d, want %d", d, got, want)
	}
	return want
}

// drops: how many a dropping takes, said by the caller.
func (p *twin) drops(d api.Tlbi, want int) {
	p.Helper()
	if got := p.drop(d); got != want {
		p.Errorf("Drop(%+v) = %d, want %d", d, got, want)
	}
}

func (p *twin) wantKnown(want ...api.Block) {
	p.Helper()
	if got := p.x.Known(); !slices.Equal(got, want) {
		p.Errorf("Known = %+v, want %+v", got, want)
	}
}

func (p *twin) wantDirty(m api.Words, want ...api.Dirt) {
	p.Helper()
	if got := p.x.Dirty(m); !slices.Equal(got, want) {
		p.Errorf("Dirty = %+v, want %+v", got, want)
	}
}

func (p *twin) wantPages(m api.Words, asid int, want ...api.Room) {
	p.Helper()
	if got := p.x.Pages(m, asid); !slices.Equal(got, want) {
		p.Errorf("Pages(%d) = %+v, want %+v", asid, got, want)
	}
}

func TestExamples(t *testing.T) {
	m := newMemory()
	m.size = 0x10000
	m.words = map[uint64]uint32{0x4000: 0x00005021, 0x4004: 0x00100c0e, 0x5004: 0x0000783e}
	c := api.Context{On: true, N: 2, Base0: 0x4000, Base1: 0x20000, DACR: 5, Asid: 7}
	s := api.Block{Asid: 7, Trans: api.Trans{Size: api.Small, VA: 0x1000, PA: 0x7000, Domain: 1, Leaf: api.Leaf{AP: 3, Bits: 6, NG: true}}}
	g := api.Block{Asid: -1, Trans: api.Trans{Size: api.Section, VA: 0x100000, PA: 0x100000, Leaf: api.Leaf{AP: 3, Bits: 6}}}
	p := newTwin(t)
	if e := p.see(m, c); e != api.OK {
		t.Errorf("See = %d", e)
	}
	p.wantKnown(g, s)
	p.wantDirty(m)
	if p.x.Stale(m, 7, 0x1000) || p.x.Stale(m, 8, 0x1000) {
		t.Error("0x1000 is stale")
	}
	p.state(m)
	m.words[0x5004] = 0
	if !p.x.Stale(m, 7, 0x1fff) {
		t.Error("0x1fff is not stale")
	}
	p.wantDirty(m, api.Dirt{Asid: 7, Block: s})
	p.wantPages(m, 7, api.Room{Lo: 1, Hi: 1})
	p.state(m)
	if e := p.see(m, asAsid(c, 8)); e != api.OK {
		t.Errorf("See = %d", e)
	}
	p.wantDirty(m, api.Dirt{Asid: 7, Block: s})
	p.drops(api.Tlbi{Kind: api.TlbiMva, Va: 0x1000, Asid: 7}, 1)
	p.wantDirty(m)
	p.wantKnown(g)
	m.words[0x4004] = 0x00200c0e
	p.wantDirty(m, api.Dirt{Asid: 7, Block: g}, api.Dirt{Asid: 8, Block: g})
	p.wantPages(m, 8, api.Room{Lo: 256, Hi: 511})
	off := c
	off.On = false
	if e := p.see(m, off); e != api.OK {
		t.Errorf("See = %d", e)
	}
	if e := p.see(m, asAsid(c, 256)); e != api.ErrArg {
		t.Errorf("See = %d", e)
	}
	p.drops(api.Tlbi{Kind: api.TlbiAsid, Asid: 7}, 0)
	p.state(m)
}

// fourBlocks: a block of each size, the first and the last pages of all addresses among them.
func fourBlocks(ng bool) []api.Trans {
	return []api.Trans{transAt(api.Small, 0, ng), transAt(api.Large, 0x10000, ng), transAt(api.Section, 0x200000, ng), transAt(api.Super, 0xff000000, ng)}
}

func TestNothingSeen(t *testing.T) {
	m := newMemory()
	m.lay(plain, fourBlocks(true)...)
	p := newTwin(t)
	for _, w := range []api.Words{m, nil} {
		if n := len(p.x.Known()) + len(p.x.Dirty(w)); n != 0 {
			t.Errorf("%d blocks and dirts", n)
		}
		for _, asid := range append(noAsids, 0, 1, 7, 254, 255) {
			if c, ok := p.x.Judge(asid); c != (api.Context{}) || ok {
				t.Errorf("Judge(%d) = %+v, %v", asid, c, ok)
			}
			if l := p.x.Pages(w, asid); len(l) != 0 {
				t.Errorf("Pages(%d) = %+v", asid, l)
			}
			for _, va := range []uint32{0, 1, page, 0x1ffff, mib, last} {
				if p.x.Stale(w, asid, va) {
					t.Errorf("Stale(%d, %#x)", asid, va)
				}
			}
		}
	}
	for _, d := range droppings(0, 0) {
		p.drops(d, 0)
	}
	p.state(m)
}

// droppings: of all kinds, for an address and an ASID.
func droppings(va uint32, asid int) []api.Tlbi {
	return []api.Tlbi{{Kind: api.TlbiAll}, {Kind: api.TlbiMva, Va: va, Asid: asid}, {Kind: api.TlbiAsid, Asid: asid}, {Kind: api.TlbiMvaa, Va: va}}
}

func TestNotOnChangesNothing(t *testing.T) {
	m := newMemory()
	m.lay(plain, append(fourBlocks(true), transAt(api.Section, 0x300000, false))...)
	offs := []api.Context{{}, {Base0: 0x4000}, {Base0: 0x8000, N: 3, PD0: true, PD1: true, TRE: true, AFE: true, DACR: last, PRRR: last, NMRR: last}}
	for _, seen := range bools {
		p := newTwin(t)
		if seen {
			p.see(m, plain)
			p.see(m, asAsid(plain, 0))
		}
		cut := m.copied()
		for _, w := range []*memory{m, cut} {
			before := p.state(w)
			for _, asid := range append(noAsids, 0, 1, 7, 255) {
				for _, c := range offs {
					for _, over := range []api.Words{w, nil} {
						if e := p.x.See(over, asAsid(c, asid)); e != api.OK {
							t.Errorf("See(%+v) = %d", asAsid(c, asid), e)
						}
					}
				}
			}
			if after := p.state(w); !slices.Equal(after.dirts, before.dirts) {
				t.Errorf("%+v, behind %+v", after.dirts, before.dirts)
			}
			cut.cut(plain, transAt(api.Small, 0, true), transAt(api.Section, 0x300000, false))
		}
	}
}

func TestSeeRefusesWhatIsNoAsid(t *testing.T) {
	m := newMemory()
	m.lay(plain, fourBlocks(true)...)
	other := newMemory()
	other.lay(plain, transAt(api.Section, 0x900000, false), transAt(api.Section, 0xa00000, true))
	p := newTwin(t)
	p.see(m, plain)
	for _, asid := range noAsids {
		for _, w := range []api.Words{m, other, nil} {
			if e := p.x.See(w, asAsid(plain, asid)); e != api.ErrArg {
				t.Errorf("See with the ASID %d = %d", asid, e)
			}
		}
	}
	p.state(m)
	p.state(other)
	for _, asid := range []int{0, 1, 254, api.MaxAsid} {
		if e := p.see(m, asAsid(plain, asid)); e != api.OK {
			t.Errorf("See with the ASID %d = %d", asid, e)
		}
		if c, ok := p.x.Judge(asid); c != asAsid(plain, asid) || !ok {
			t.Errorf("Judge(%d) = %+v, %v", asid, c, ok)
		}
	}
	if n := len(p.x.Known()); n != 20 {
		t.Errorf("%d are known", n)
	}
	p.state(m)
}

// TestNoMemory: nil is a memory without a word: nothing is seen in it, and no block found.
func TestNoMemory(t *testing.T) {
	m := newMemory()
	own, all := transAt(api.Small, 0x1000, true), transAt(api.Section, 0x100000, false)
	m.lay(plain, own, all)
	p := newTwin(t)
	if e := p.see(nil, plain); e != api.OK {
		t.Errorf("See = %d", e)
	}
	p.wantKnown()
	p.wantDirty(nil)
	p.wantPages(nil, 7)
	if c, ok := p.x.Judge(7); c != plain || !ok {
		t.Errorf("Judge = %+v, %v", c, ok)
	}
	p.see(m, plain)
	p.see(nil, asAsid(plain, 9))
	p.wantKnown(of(all, 7), of(own, 7))
	p.wantDirty(m)
	p.wantDirty(nil, api.Dirt{Asid: 7, Block: of(all, 7)}, api.Dirt{Asid: 7, Block: of(own, 7)}, api.Dirt{Asid: 9, Block: of(all, 9)})
	p.wantPages(nil, 7, api.Room{Lo: 1, Hi: 1}, api.Room{Lo: 256, Hi: 511})
	p.wantPages(nil, 9, api.Room{Lo: 256, Hi: 511})
	if !p.x.Stale(nil, 7, 0x1000) || p.x.Stale(nil, 9, 0x1000) || !p.x.Stale(nil, 9, 0x1fffff) {
		t.Error("Stale over no memory")
	}
	p.state(m)
	p.state(nil)
}

// TestSeen: P1201: what was seen, by whichever context and in whichever memory, is known; the later of two contexts with one ASID is the judge.
func TestSeen(t *testing.T) {
	m, other := newMemory(), newMemory()
	own, all := transAt(api.Small, 0x1000, true), transAt(api.Section, 0x100000, false)
	m.lay(plain, own, all)
	moved := own
	moved.PA = 0x6000000
	other.lay(plain, moved, transAt(api.Large, 0x10000, true))
	p := newTwin(t)
	p.see(m, plain)
	p.state(m)
	p.see(m, plain)
	p.wantKnown(of(all, 7), of(own, 7))
	p.wantDirty(m)
	p.state(m)
	p.see(other, plain)
	p.wantKnown(of(all, 7), of(own, 7), of(moved, 7), of(transAt(api.Large, 0x10000, true), 7))
	p.state(m)
	p.state(other)
	p.see(m, asAsid(plain, 3))
	p.wantKnown(of(all, 7), of(own, 3), of(own, 7), of(moved, 7), of(transAt(api.Large, 0x10000, true), 7))
	p.state(m)
	p.state(other)

	later := plain
	later.Base0 = 0x8000
	late := transAt(api.Small, 0x3000, true)
	m.lay(later, late)
	p = newTwin(t)
	p.see(m, plain)
	p.see(m, later)
	if c, ok := p.x.Judge(7); c != later || !ok {
		t.Errorf("Judge = %+v, %v", c, ok)
	}
	p.wantKnown(of(all, 7), of(own, 7), of(late, 7))
	p.wantDirty(m, api.Dirt{Asid: 7, Block: of(all, 7)}, api.Dirt{Asid: 7, Block: of(own, 7)})
	p.state(m)
	p.see(m, plain)
	p.wantDirty(m, api.Dirt{Asid: 7, Block: of(late, 7)})
	p.wantPages(m, 7, api.Room{Lo: 3, Hi: 3})
	p.state(m)
}

// TestJudgeAsSeen: a judge is told with each field as it came in, those that say nothing to a walk too.
func TestJudgeAsSeen(t *testing.T) {
	p := newTwin(t)
	contexts := []api.Context{
		{On: true},
		{On: true, TRE: true, AFE: true, N: -1, PD0: true, PD1: true, Base0: math.MaxUint64, Base1: math.MaxUint64, DACR: last, PRRR: last, NMRR: last, Asid: 255},
		{On: true, N: math.MinInt, Base0: 0x4001, Base1: 1 << 63, Asid: 1},
		{On: true, N: math.MaxInt, Base0: 1<<63 + 5, Base1: 77, DACR: 9, PRRR: 8, NMRR: 7, Asid: 0},
		{On: true, TRE: true, Asid: 255},
	}
	for _, c := range contexts {
		p.see(newMemory(), c)
		p.judge(c.Asid)
	}
	p.state(nil)
}

// splits: a context with each N, and an address in each of its tables.
func splits(visit func(c api.Context, va uint32)) {
	for n := range 8 {
		c := api.Context{On: true, N: n, Base0: 0x10000, Base1: 0x20000, Asid: 7}
		visit(c, 0x1000000)
		if n > 0 {
			visit(c, 1<<(32-n))
			visit(c, 0xff000000)
		}
	}
}

// TestSizesAndBases: blocks of all sizes, global ones and ones of an ASID, in both tables: seen, gone, moved, back again.
func TestSizesAndBases(t *testing.T) {
	splits(func(c api.Context, va uint32) {
		for _, size := range sizes {
			for _, ng := range bools {
				oneBlock(t, c, transAt(size, va, ng))
			}
		}
	})
}

func oneBlock(t *testing.T, c api.Context, b api.Trans) {
	t.Helper()
	m := newMemory()
	m.lay(c, b)
	p := newTwin(t)
	p.see(m, c)
	p.see(nil, asAsid(c, 9))
	p.wantKnown(of(b, 7))
	whole := api.Room{Lo: uint64(b.VA) / page, Hi: (uint64(b.VA)+bytes[b.Size])/page - 1}
	mine, others := []api.Dirt{{Asid: 7, Block: of(b, 7)}}, []api.Dirt{{Asid: 9, Block: of(b, 7)}}
	if b.Leaf.NG {
		others = nil
	}
	p.wantDirty(m)
	gone := m.copied()
	gone.cut(c, b)
	moved := m.copied()
	other := b
	other.PA += bytes[b.Size]
	moved.lay(c, other)
	for _, w := range []*memory{gone, moved} {
		p.wantDirty(w, append(slices.Clone(mine), others...)...)
		p.wantPages(w, 7, whole)
	}
	p.wantDirty(m)
	p.wantPages(m, 7)
	for _, w := range []*memory{m, gone, moved} {
		p.edges(w)
	}
	shut := c
	shut.PD0, shut.PD1 = true, true
	p.see(m, shut)
	p.wantKnown(of(b, 7))
	p.wantDirty(m, mine...) // the other ASID's judge finds it still
	p.wantPages(m, 7, whole)
	p.edges(m)
}

// TestShutTables: what stands behind PD0 or PD1 is not seen, and the other table is.
func TestShutTables(t *testing.T) {
	m := newMemory()
	open := api.Context{On: true, N: 1, Base0: 0x4000, Base1: 0x8000, Asid: 7}
	low, high := transAt(api.Section, 0x100000, true), transAt(api.Section, 0x80000000, true)
	m.lay(open, low, high)
	for _, shut0 := range bools {
		for _, shut1 := range bools {
			c := open
			c.PD0, c.PD1 = shut0, shut1
			p := newTwin(t)
			p.see(m, c)
			var want []api.Block
			if !shut0 {
				want = append(want, of(low, 7))
			}
			if !shut1 {
				want = append(want, of(high, 7))
			}
			p.wantKnown(want...)
			p.wantDirty(m)
			p.see(m, open)
			p.state(m)
			p.see(m, c)
			p.state(m)
		}
	}
}

// TestPartlySaid: a block of sixteen descriptors of which some say otherwise is known, and dirty at once, at just their pages.
func TestPartlySaid(t *testing.T) {
	for _, size := range []int{api.Large, api.Super} {
		for _, ng := range bools {
			b := transAt(size, 0x1000000, ng)
			other := b
			other.Leaf.AP = 2
			for i := range 16 {
				partlySaid(t, b, 0, i)
				partlySaid(t, b, word(other), i)
			}
			partlySaid(t, b, 0, 1, 2, 15)
			partlySaid(t, b, word(other), 0, 2, 3, 4, 8)
			partlySaid(t, b, 0, 1, 2, 3, 4, 5, 6, 7, 8, 9, 10, 11, 12, 13, 14, 15)
		}
	}
}

func partlySaid(t *testing.T, b api.Trans, w uint32, at ...int) {
	t.Helper()
	m := newMemory()
	m.lay(plain, b)
	spots := m.spots(plain, b)
	gone := map[uint64]bool{}
	each := bytes[b.Size] / page / 16
	for i := range uint64(16) {
		if slices.Contains(at, int(i)) {
			m.words[spots[i]] = w
			for j := range each {
				gone[uint64(b.VA)/page+i*each+j] = true
			}
		}
	}
	p := newTwin(t)
	p.see(m, plain)
	if !slices.Contains(p.x.Known(), of(b, 7)) {
		t.Fatalf("%+v is not known", b)
	}
	dirts := p.x.Dirty(m)
	if !slices.Contains(dirts, api.Dirt{Asid: 7, Block: of(b, 7)}) {
		t.Fatalf("%+v is not dirty: %+v", b, dirts)
	}
	if w == 0 {
		p.wantKnown(of(b, 7))
		p.wantPages(m, 7, rooms(gone)...)
		for i := range uint64(16) {
			va := uint32((uint64(b.VA)/page + i*each) * page)
			if p.x.Stale(m, 7, va) != gone[uint64(va)/page] {
				t.Fatalf("Stale(%#x) = %v", va, !gone[uint64(va)/page])
			}
		}
	}
	p.state(m)
}

// TestGoneAndBack: a known block that the walk does not find, finds with another translation, finds in part, and finds again.
func TestGoneAndBack(t *testing.T) {
	for _, size := range sizes {
		b := transAt(size, 0x2000000, true)
		m := newMemory()
		m.lay(plain, b)
		p := newTwin(t)
		p.see(m, plain)
		clean := func(w *memory) {
			t.Helper()
			p.wantDirty(w)
			p.wantPages(w, 7)
			p.state(w)
		}
		dirty := func(w *memory) {
			t.Helper()
			p.wantDirty(w, api.Dirt{Asid: 7, Block: of(b, 7)})
			p.wantPages(w, 7, api.Room{Lo: 0x2000, Hi: 0x2000 + bytes[size]/page - 1})
			p.state(w)
		}
		clean(m)
		gone := m.copied()
		gone.cut(plain, b)
		dirty(gone)
		for _, other := range others(b) {
			moved := m.copied()
			moved.lay(plain, other)
			dirty(moved)
		}
		gone.lay(plain, b)
		clean(gone)
		narrow := m.copied()
		narrow.size = 0
		dirty(narrow)
		clean(m)
	}
}

// others: translations of the same block that differ from it in one field.
func others(b api.Trans) []api.Trans {
	l := []api.Trans{b, b, b, b, b}
	l[0].PA += bytes[b.Size]
	l[1].Leaf.AP = 2
	l[2].Leaf.Bits = 13
	l[3].Leaf.NG = !b.Leaf.NG
	l[4].Leaf.XN = !b.Leaf.XN
	if b.Size != api.Super {
		l = append(l, b)
		l[5].Domain = 15
	}
	return l
}

// TestOtherSizes: at the place of a known block stand blocks of another size, with the same beginning in the memory.
func TestOtherSizes(t *testing.T) {
	for _, was := range sizes {
		for _, is := range sizes {
			m, after := newMemory(), newMemory()
			b := transAt(was, 0x3000000, true)
			m.lay(plain, b)
			for i := range uint64(16) {
				c := transAt(is, 0x3000000+uint32(i*bytes[is]), true)
				c.PA = b.PA + i*bytes[is]
				after.lay(plain, c)
			}
			p := newTwin(t)
			p.see(m, plain)
			if told := p.state(after); (len(told.dirts) == 1) != (was != is) {
				t.Errorf("%d for %d: %+v", is, was, told.dirts)
			}
			p.see(after, plain)
			p.state(after)
			p.state(m)
			p.drop(api.Tlbi{Kind: api.TlbiMva, Va: b.VA, Asid: 7})
			p.state(after)
		}
	}
}

// TestDropKinds: each of the four kinds, at the first and the last page of a block and on both sides of it.
func TestDropKinds(t *testing.T) {
	for _, size := range sizes {
		for _, ng := range bools {
			b := transAt(size, 0x4000000, ng)
			lo, hi := b.VA, b.VA+uint32(bytes[size]-1)
			for _, va := range []uint32{lo, lo + 1, lo + page - 1, hi - page + 1, hi - 1, hi} {
				droppedBy(t, b, api.Tlbi{Kind: api.TlbiMva, Va: va, Asid: 7}, true)
				droppedBy(t, b, api.Tlbi{Kind: api.TlbiMva, Va: va, Asid: 8}, !ng)
				droppedBy(t, b, api.Tlbi{Kind: api.TlbiMva, Va: va, Asid: 255}, !ng)
				droppedBy(t, b, api.Tlbi{Kind: api.TlbiMvaa, Va: va}, true)
			}
			for _, va := range []uint32{lo - 1, lo - page, hi + 1, hi + page, 0, last, lo ^ 1<<31} {
				droppedBy(t, b, api.Tlbi{Kind: api.TlbiMva, Va: va, Asid: 7}, false)
				droppedBy(t, b, api.Tlbi{Kind: api.TlbiMvaa, Va: va}, false)
			}
			droppedBy(t, b, api.Tlbi{Kind: api.TlbiAll}, true)
			droppedBy(t, b, api.Tlbi{Kind: api.TlbiAsid, Asid: 7}, ng)
			droppedBy(t, b, api.Tlbi{Kind: api.TlbiAsid, Asid: 0}, false)
			droppedBy(t, b, api.Tlbi{Kind: api.TlbiAsid, Asid: 6}, false)
			for _, d := range noDroppings(lo) {
				droppedBy(t, b, d, false)
			}
		}
	}
}

// noDroppings: such as would take a block at an address, if they were any.
func noDroppings(va uint32) []api.Tlbi {
	l := []api.Tlbi{{}, {Kind: api.TlbiAll, Va: 1}, {Kind: api.TlbiAll, Va: va}, {Kind: api.TlbiAll, Asid: 7}, {Kind: api.TlbiAll, Asid: -1}, {Kind: api.TlbiAsid, Va: va, Asid: 7}, {Kind: api.TlbiMvaa, Va: va, Asid: 7}, {Kind: api.TlbiMvaa, Va: va, Asid: -1}}
	for _, asid := range noAsids {
		l = append(l, api.Tlbi{Kind: api.TlbiMva, Va: va, Asid: asid}, api.Tlbi{Kind: api.TlbiAsid, Asid: asid})
	}
	for _, kind := range []int{math.MinInt, -1, 0, 5, 1<<32 + api.TlbiAll, math.MaxInt} {
		l = append(l, api.Tlbi{Kind: kind}, api.Tlbi{Kind: kind, Va: va, Asid: 7})
	}
	return l
}

func droppedBy(t *testing.T, b api.Trans, d api.Tlbi, want bool) {
	t.Helper()
	m := newMemory()
	m.lay(plain, b)
	x := stale.New()
	x.See(m, plain)
	var left []api.Block
	if !want {
		left = []api.Block{of(b, 7)}
	}
	if n := x.Drop(d); n != 1-len(left) || !slices.Equal(x.Known(), left) {
		t.Errorf("Drop(%+v) of %+v = %d, Known = %+v", d, b, n, x.Known())
	}
	if n := x.Drop(d); n != 0 {
		t.Errorf("Drop(%+v) once more = %d", d, n)
	}
	if c, ok := x.Judge(7); c != plain || !ok {
		t.Errorf("Judge behind Drop = %+v, %v", c, ok)
	}
	// What was dropped is no dirt, and what was not is one.
	if n := len(x.Dirty(nil)); n != len(left) {
		t.Errorf("%d dirts behind Drop(%+v)", n, d)
	}
	if x.Stale(nil, 7, b.VA) == want {
		t.Errorf("Stale = %v behind Drop(%+v)", want, d)
	}
}

// TestDropByAnyPage: P1205: each page of a block drops it.
func TestDropByAnyPage(t *testing.T) {
	for _, size := range sizes {
		for _, ng := range bools {
			b := transAt(size, 0xff000000, ng)
			m := newMemory()
			m.lay(plain, b)
			x := stale.New()
			pages := uint32(bytes[size] / page)
			for n := uint32(0); n < pages; n += 1 + pages/100 {
				x.See(m, plain)
				d := api.Tlbi{Kind: api.TlbiMva, Va: b.VA + n*page + n%page, Asid: 7}
				if count := x.Drop(d); count != 1 || len(x.Known()) != 0 {
					t.Fatalf("Drop(%+v) = %d, and leaves %+v", d, count, x.Known())
				}
			}
		}
	}
}

// TestHowManyAreDropped: blocks of many ASIDs and global ones, that lie over one another.
func TestHowManyAreDropped(t *testing.T) {
	fill := func() *twin {
		p := newTwin(t)
		m := newMemory()
		for _, size := range sizes {
			for asid := range 4 {
				m = newMemory()
				m.lay(plain, transAt(size, 0x1000000, asid > 0))
				p.see(m, asAsid(plain, asid))
			}
		}
		return p
	}
	p := fill()
	if n := len(p.x.Known()); n != 16 {
		t.Fatalf("%d are known", n)
	}
	p.drops(api.Tlbi{Kind: api.TlbiAll}, 16)
	p.wantKnown()
	p = fill()
	p.drops(api.Tlbi{Kind: api.TlbiAsid, Asid: 0}, 0)
	p.drops(api.Tlbi{Kind: api.TlbiAsid, Asid: 2}, 4)
	p.drops(api.Tlbi{Kind: api.TlbiAsid, Asid: 2}, 0)
	p.state(nil)
	p.drops(api.Tlbi{Kind: api.TlbiMva, Va: 0x1001000, Asid: 2}, 3)
	p.drops(api.Tlbi{Kind: api.TlbiMva, Va: 0x1001000, Asid: 3}, 3)
	p.state(nil)
	p.drops(api.Tlbi{Kind: api.TlbiMvaa, Va: 0x100ffff}, 3)
	p.drops(api.Tlbi{Kind: api.TlbiMvaa, Va: 0x1000000}, 3)
	p.state(nil)
	p.wantKnown()
	p = fill()
	p.drops(api.Tlbi{Kind: api.TlbiMvaa, Va: 0x1ffffff}, 4)
	p.drops(api.Tlbi{Kind: api.TlbiMva, Va: 0x10fffff, Asid: 9}, 1)
	p.drops(api.Tlbi{Kind: api.TlbiMvaa, Va: 0x1000fff}, 11)
	p.state(nil)
}

// TestStaleAtEdges: of one block that is gone, at its two ends and on both sides of it.
func TestStaleAtEdges(t *testing.T) {
	for _, va := range []uint32{0, 0x5000000, 0xff000000} {
		for _, size := range sizes {
			b := transAt(size, va, true)
			if va == 0xff000000 {
				b.VA = uint32(1<<32 - bytes[size])
			}
			m := newMemory()
			m.lay(plain, b)
			x := stale.New()
			x.See(m, plain)
			x.See(nil, asAsid(plain, 8))
			lo, hi := b.VA, b.VA+uint32(bytes[size]-1)
			for _, in := range []uint32{lo, lo + 1, lo + page - 1, hi - page + 1, hi - 1, hi} {
				if !x.Stale(nil, 7, in) || x.Stale(m, 7, in) || x.Stale(nil, 8, in) {
					t.Errorf("Stale at %#x of %+v", in, b)
				}
				for _, asid := range append(noAsids, 0, 6, 255) {
					if x.Stale(nil, asid, in) {
						t.Errorf("Stale(%d, %#x)", asid, in)
					}
				}
			}
			for _, out := range []uint32{lo - 1, lo - page, hi + 1, hi + page, lo ^ 1<<30} {
				if x.Stale(nil, 7, out) {
					t.Errorf("Stale at %#x beside %+v", out, b)
				}
			}
		}
	}
}

// TestOrder: Known and Dirty in order of blocks, each field in its turn; told twice alike.
func TestOrder(t *testing.T) {
	p := newTwin(t)
	leaf := api.Leaf{AP: 3, Bits: 14, NG: true}
	rows := []api.Trans{
		{Size: api.Small, VA: 0x1000, PA: 0x5000, Domain: 3, Leaf: leaf},
		{Size: api.Small, VA: 0x1000, PA: 0x5000, Domain: 3, Leaf: api.Leaf{AP: 3, Bits: 14, NG: true, XN: true}},
		{Size: api.Small, VA: 0x1000, PA: 0x5000, Domain: 3, Leaf: api.Leaf{AP: 3, Bits: 15, NG: true}},
		{Size: api.Small, VA: 0x1000, PA: 0x5000, Domain: 3, Leaf: api.Leaf{AP: 7, Bits: 2, NG: true}},
		{Size: api.Small, VA: 0x1000, PA: 0x5000, Domain: 12, Leaf: api.Leaf{AP: 1, Bits: 14, NG: true}},
		{Size: api.Small, VA: 0x1000, PA: 0x11000, Domain: 2, Leaf: leaf},
		{Size: api.Small, VA: 0x20000, PA: 0x1000, Domain: 3, Leaf: leaf},
		{Size: api.Small, VA: 0xfffff000, PA: 0, Domain: 3, Leaf: leaf},
		{Size: api.Large, VA: 0x10000, PA: 0x30000, Domain: 3, Leaf: leaf},
		{Size: api.Large, VA: 0x10000, PA: 0xffff0000, Domain: 3, Leaf: leaf},
		{Size: api.Section, VA: 0, PA: 0x100000, Domain: 3, Leaf: leaf},
		{Size: api.Super, VA: 0, PA: 1 << 24, Leaf: leaf},
		{Size: api.Super, VA: 0, PA: 1 << 32, Leaf: leaf},
		{Size: api.Super, VA: 0, PA: 255 << 32, Leaf: leaf},
		{Size: api.Super, VA: 0x80000000, PA: 1 << 24, Leaf: leaf},
	}
	asids := []int{10, 9, 255, 0}
	order := rand.New(rand.NewSource(1)).Perm(len(rows))
	for _, asid := range asids {
		for _, i := range order {
			for _, ng := range bools {
				b := rows[i]
				b.Leaf.NG = ng
				m := newMemory()
				m.lay(plain, b)
				p.see(m, asAsid(plain, asid))
			}
		}
	}
	var known []api.Block
	var dirts []api.Dirt
	for _, asid := range []int{api.AnyAsid, 0, 9, 10, 255} {
		for _, b := range rows {
			b.Leaf.NG = asid >= 0
			known = append(known, api.Block{Asid: asid, Trans: b})
		}
	}
	for _, asid := range []int{0, 9, 10, 255} {
		for _, b := range known {
			if b.Asid == asid || b.Asid == api.AnyAsid {
				dirts = append(dirts, api.Dirt{Asid: asid, Block: b})
			}
		}
	}
	for range 5 {
		p.wantKnown(known...)
		p.wantDirty(nil, dirts...)
	}
	p.state(nil)
}

// TestRooms: stale pages that touch each other are one room, whatever blocks they lie in.
func TestRooms(t *testing.T) {
	for _, row := range []struct {
		blocks []api.Trans
		want   []api.Room
	}{
		{[]api.Trans{transAt(api.Small, 0x1000, true), transAt(api.Small, 0x2000, true)}, []api.Room{{Lo: 1, Hi: 2}}},
		{[]api.Trans{transAt(api.Small, 0x1000, true), transAt(api.Small, 0x3000, true)}, []api.Room{{Lo: 1, Hi: 1}, {Lo: 3, Hi: 3}}},
		{[]api.Trans{transAt(api.Small, 0, true), transAt(api.Small, 0xfffff000, true)}, []api.Room{{Lo: 0, Hi: 0}, {Lo: lastPage, Hi: lastPage}}},
		{[]api.Trans{transAt(api.Small, 0xf000, false), transAt(api.Large, 0x10000, true), transAt(api.Small, 0x20000, false)}, []api.Room{{Lo: 0xf, Hi: 0x20}}},
		{[]api.Trans{transAt(api.Large, 0xf0000, false), transAt(api.Section, 0x100000, true), transAt(api.Small, 0x201000, true)}, []api.Room{{Lo: 0xf0, Hi: 0x1ff}, {Lo: 0x201, Hi: 0x201}}},
		{[]api.Trans{transAt(api.Section, 0xf00000, true), transAt(api.Super, 0x1000000, true), transAt(api.Section, 0x2000000, false)}, []api.Room{{Lo: 0xf00, Hi: 0x20ff}}},
		{[]api.Trans{transAt(api.Super, 0xfe000000, true), transAt(api.Super, 0xff000000, false)}, []api.Room{{Lo: 0xfe000, Hi: lastPage}}},
		{[]api.Trans{transAt(api.Small, 0, false), transAt(api.Large, 0xffff0000, false)}, []api.Room{{Lo: 0, Hi: 0}, {Lo: lastPage - 15, Hi: lastPage}}},
	} {
		m := newMemory()
		m.lay(plain, row.blocks...)
		p := newTwin(t)
		p.see(m, plain)
		if n := len(p.x.Known()); n != len(row.blocks) {
			t.Fatalf("%d are known", n)
		}
		p.wantPages(m, 7)
		p.wantPages(nil, 7, row.want...)
		p.state(m)
		p.state(nil)
	}
}

// TestAllPages: every page of all addresses is stale, or every other one.
func TestAllPages(t *testing.T) {
	m := newMemory()
	for i := range uint64(256) {
		m.lay(plain, transAt(api.Super, uint32(i)<<24, i%2 == 0))
	}
	x := stale.New()
	x.See(m, plain)
	x.See(m, asAsid(plain, 8))
	if l := x.Pages(m, 7); len(l) != 0 {
		t.Errorf("Pages = %+v", l)
	}
	if l := x.Pages(nil, 7); !slices.Equal(l, []api.Room{{Lo: 0, Hi: lastPage}}) {
		t.Errorf("Pages = %+v", l)
	}
	x.Drop(api.Tlbi{Kind: api.TlbiAsid, Asid: 8})
	l := x.Pages(nil, 8)
	if len(l) != 128 || l[0] != (api.Room{Lo: 0x1000, Hi: 0x1fff}) || l[127] != (api.Room{Lo: 0xff000, Hi: lastPage}) {
		t.Errorf("Pages = %+v", l)
	}
	one := newMemory()
	for i := range uint64(4096) { // one table for all of them
		one.words[0x4000+4*i] = 0x00008021
	}
	for i := range uint64(256) {
		one.words[0x8000+4*i] = 0x783e + uint32(i)<<12
	}
	x = stale.New()
	x.See(one, plain)
	for i := range uint64(128) {
		one.words[0x8000+8*i] = 0
	}
	l = x.Pages(one, 7)
	if len(l) != 1<<19 {
		t.Fatalf("%d rooms", len(l))
	}
	for i, r := range l {
		if r.Lo != uint64(2*i) || r.Hi != r.Lo {
			t.Fatalf("the room %d is %+v", i, r)
		}
	}
}

// TestEachPage: Pages are just the pages at which Stale says yes, of all that there are.
func TestEachPage(t *testing.T) {
	m := newMemory()
	blocks := []api.Trans{transAt(api.Small, 0, true), transAt(api.Large, 0x30000, false), transAt(api.Section, 0x300000, true), transAt(api.Super, 0x7000000, false), transAt(api.Super, 0xff000000, true)}
	m.lay(plain, blocks...)
	x := stale.New()
	x.See(m, plain)
	for _, b := range blocks {
		m.words[m.spots(plain, b)[0]] = 0
	}
	m.lay(plain, transAt(api.Section, 0x7300000, true))
	var stales []api.Room
	for n := range uint64(1 << 20) {
		if x.Stale(m, 7, uint32(n)*page+uint32(n%page)) {
			stales = append(stales, api.Room{Lo: n, Hi: n})
		}
	}
	var pages []api.Room
	for _, r := range x.Pages(m, 7) {
		for n := r.Lo; n <= r.Hi; n++ {
			pages = append(pages, api.Room{Lo: n, Hi: n})
		}
	}
	if len(stales) != 1+1+256+2*256+256 || !slices.Equal(stales, pages) {
		t.Errorf("%d pages are stale, Pages has %d", len(stales), len(pages))
	}
}

// spoil: a list is written over by its caller, its spare room too.
func spoil[T any](l []T, with T) {
	l = l[:cap(l)]
	for i := range l {
		l[i] = with
	}
}

// TestHandedOut: rule 4: what was told, written over, changes nothing, and nothing changes what was told.
func TestHandedOut(t *testing.T) {
	m := newMemory()
	blocks := append(fourBlocks(true), transAt(api.Section, 0x400000, false), transAt(api.Large, 0x50000, false))
	m.lay(plain, blocks...)
	p := newTwin(t)
	p.see(m, plain)
	p.see(m, asAsid(plain, 8))
	gone := m.copied()
	gone.cut(plain, blocks[0], blocks[3], blocks[4])
	for range 3 {
		spoil(p.x.Known(), api.Block{Asid: 7, Trans: transAt(api.Small, 0x9000, true)})
		spoil(p.x.Dirty(gone), api.Dirt{Asid: 8})
		spoil(p.x.Pages(gone, 7), api.Room{Lo: 5, Hi: 4})
		p.state(m)
		p.state(gone)
	}
	known, dirts, pages := p.x.Known(), p.x.Dirty(gone), p.x.Pages(gone, 7)
	first, second, third := slices.Clone(known), slices.Clone(dirts), slices.Clone(pages)
	if len(known) < 10 || len(dirts) < 5 || len(pages) < 3 {
		t.Fatalf("%d known, %d dirts, %d rooms", len(known), len(dirts), len(pages))
	}
	p.drops(api.Tlbi{Kind: api.TlbiMvaa, Va: 0x400000}, 1)
	p.see(m, asAsid(plain, 3))
	p.drops(api.Tlbi{Kind: api.TlbiAsid, Asid: 8}, 4)
	p.state(gone)
	p.drop(api.Tlbi{Kind: api.TlbiAll})
	p.state(gone)
	if !slices.Equal(known, first) || !slices.Equal(dirts, second) || !slices.Equal(pages, third) {
		t.Error("what was told has changed")
	}
}

// TestApart: two trackers share nothing (rule 5).
func TestApart(t *testing.T) {
	m := newMemory()
	m.lay(plain, fourBlocks(true)...)
	a, b := newTwin(t), newTwin(t)
	a.see(m, plain)
	b.state(m)
	b.see(m, asAsid(plain, 9))
	a.state(m)
	b.drop(api.Tlbi{Kind: api.TlbiAll})
	a.state(nil)
	a.drop(api.Tlbi{Kind: api.TlbiAsid, Asid: 7})
	b.state(nil)
}

// TestOverRam: the memory of layer 3 is one to a tracker.
func TestOverRam(t *testing.T) {
	m, _ := ram.New(8)
	m.SetWord(0x4000, 0x00000c02)
	p := newTwin(t)
	p.see(m, asAsid(plain, 0))
	p.state(m)
	m.SetWord(0x4000, 0x00100c02)
	p.state(m)
	p.see(m, asAsid(plain, 0))
	p.state(m)
	if l := p.x.Pages(m, 0); len(p.x.Known()) != 2 || !slices.Equal(l, []api.Room{{Lo: 0, Hi: 255}}) {
		t.Errorf("Known = %+v, Pages = %+v", p.x.Known(), l)
	}
}

// The parts of addresses, and of tables, that the random steps play with.
var (
	wildMibs   = []uint32{0, 1, 15, 16, 17, 0x7ff, 0x800, 0xff0, 0xfff}
	wildPages  = []uint32{0, 1, 2, 15, 16, 17, 240, 255}
	wildTables = []uint64{0x1000, 0x1400, 0x1800}
	wildRoots  = []uint64{0x4000, 0x8000}
	wildAsids  = []int{0, 1, 7, 255}
)

func pick[T any](r *rand.Rand, l []T) T { return l[r.Intn(len(l))] }

// wildFirst: a first-level descriptor, often a table.
func wildFirst(r *rand.Rand) uint32 {
	switch r.Intn(6) {
	case 0:
		return 0
	case 1:
		return uint32(r.Intn(2))<<20 | uint32(r.Intn(2))<<17 | 0xc02
	case 2:
		return uint32(r.Intn(2))<<24 | uint32(r.Intn(2))<<17 | 1<<18 | 0xc02
	}
	return uint32(pick(r, wildTables)) | uint32(r.Intn(2))<<5 | 1
}

func wildSecond(r *rand.Rand) uint32 {
	switch r.Intn(4) {
	case 0:
		return 0
	case 1:
		return uint32(r.Intn(2))<<16 | uint32(r.Intn(2))<<11 | 0x31
	}
	return uint32(r.Intn(3))<<12 | uint32(r.Intn(2))<<11 | 0x32 | uint32(r.Intn(2))
}

// scribble: some words of the tables are written anew; now and then sixteen in a row alike.
func scribble(r *rand.Rand, m *memory) {
	for range 1 + r.Intn(6) {
		at, w := pick(r, wildTables)+uint64(4*pick(r, wildPages)), wildSecond(r)
		if r.Intn(2) == 0 {
			at, w = pick(r, wildRoots)+uint64(4*pick(r, wildMibs)), wildFirst(r)
		}
		m.words[at] = w
		if r.Intn(3) == 0 && w&3 != 1 || w&3 == 1 && at < 0x4000 {
			for i := range uint64(16) {
				m.words[at&^63+4*i] = w
			}
		}
	}
}

func wildContext(r *rand.Rand) api.Context {
	return api.Context{
		On:    r.Intn(8) > 0,
		N:     pick(r, []int{0, 0, 1, 1, 2, 7, 8, -1}),
		PD0:   r.Intn(10) == 0,
		PD1:   r.Intn(10) == 0,
		Base0: pick(r, wildRoots) + uint64(r.Intn(128)),
		Base1: pick(r, append(wildRoots, 0x100000)),
		DACR:  r.Uint32(),
		Asid:  pick(r, append([]int{-1, 256}, append(wildAsids, wildAsids...)...)),
	}
}

func wildVA(r *rand.Rand) uint32 {
	return pick(r, wildMibs)<<20 | pick(r, wildPages)<<12 | uint32(r.Intn(page))
}

func wildDropping(r *rand.Rand) api.Tlbi {
	d := pick(r, droppings(wildVA(r), pick(r, append([]int{3, -1, 256}, wildAsids...))))
	if d.Kind == api.TlbiAll && r.Intn(4) > 0 {
		d = api.Tlbi{Kind: api.TlbiMvaa, Va: wildVA(r), Asid: r.Intn(8) / 7}
	}
	return d
}

// TestWild: any steps, over a memory that is written between them.
func TestWild(t *testing.T) {
	for seed := range int64(12) {
		r := rand.New(rand.NewSource(seed))
		m := newMemory()
		m.size = 0x10000
		p := newTwin(t)
		for step := range 40 {
			scribble(r, m)
			if r.Intn(3) > 0 {
				p.see(m, wildContext(r))
			} else {
				p.fewerByDropping(m, wildDropping(r))
			}
			for range 20 {
				p.stale(m, pick(r, wildAsids), wildVA(r))
			}
			if step%8 == 7 {
				p.lists(m)
				p.tlbOfKnown(r, m)
			}
		}
	}
}

// fewerByDropping: P1206, and P1205 of what was dropped.
func (p *twin) fewerByDropping(m api.Words, d api.Tlbi) {
	p.Helper()
	dirts := p.x.Dirty(m)
	pages := map[int][]api.Room{}
	for asid := range p.judges {
		pages[asid] = p.x.Pages(m, asid)
	}
	p.drop(d)
	for _, b := range p.x.Known() {
		if takes(d, b) {
			p.Fatalf("%+v is known behind %+v", b, d)
		}
	}
	for _, x := range p.x.Dirty(m) {
		if !slices.Contains(dirts, x) {
			p.Fatalf("Drop(%+v) makes %+v dirty", d, x)
		}
	}
	for asid := range p.judges {
		for _, r := range p.x.Pages(m, asid) {
			if !slices.ContainsFunc(pages[asid], func(s api.Room) bool { return s.Lo <= r.Lo && r.Hi <= s.Hi }) {
				p.Fatalf("Drop(%+v) makes %+v stale", d, r)
			}
		}
	}
}

// tlbOfKnown: P1203: a TLB with known blocks alone, whichever, answers as the walk where nothing is stale.
func (p *twin) tlbOfKnown(r *rand.Rand, m api.Words) {
	p.Helper()
	x, _ := tlb.New(64)
	for _, b := range p.inOrder() {
		if _, e := x.Put(b, r.Int()); e != api.OK {
			p.Fatalf("%+v is known, but not right", b)
		}
	}
	for range 200 {
		asid, va := pick(r, wildAsids), wildVA(r)
		c, judged := p.x.Judge(asid)
		if !judged || p.x.Stale(m, asid, va) {
			continue
		}
		b, n := x.Look(va, asid)
		if found, _ := walk.Walk(m, c, va); n > 1 || n == 1 && b.Trans != found {
			p.Fatalf("Look(%#x, %d) = %+v, %d, the walk finds %+v", va, asid, b, n, found)
		}
	}
}
