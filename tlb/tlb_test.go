package tlb_test

import (
	"math"
	"math/rand"
	"slices"
	"testing"

	"atlas/api"
	"atlas/tlb"
)

const (
	page = 1 << 12
	last = math.MaxUint32
)

// sizes: of the chapter's blocks, with how many bytes they have.
var sizes = map[int]uint64{api.Small: 4096, api.Large: 65536, api.Section: 1048576, api.Super: 16777216}

// noAsids: numbers that are no ASID.
var noAsids = []int{math.MinInt, math.MinInt + 1, math.MinInt32, -65536, -256, -255, -2, api.AnyAsid, 256, 257, 511, 1 << 16, 1 << 32, 1<<32 + 7, math.MaxInt - 1, math.MaxInt}

// noDomains: beyond the domains and the APs.
var noDomains = []int{math.MinInt, -16, -8, -1, 16, 17, 1 << 32, math.MaxInt}

// The blocks of the chapter's examples.
var (
	exampleA = api.Block{Asid: 7, Trans: api.Trans{Size: api.Small, VA: 0x10000, PA: 0x5000, Domain: 1, Leaf: api.Leaf{AP: 3, Bits: 14, NG: true}}}
	exampleG = api.Block{Asid: api.AnyAsid, Trans: api.Trans{Size: api.Section, PA: 0x100000, Leaf: api.Leaf{AP: 1}}}
)

// blockAt: a right block of that size at VA; global, if the ASID is AnyAsid.
func blockAt(size int, va uint32, asid int) api.Block {
	b := api.Block{Asid: asid, Trans: api.Trans{Size: size, VA: va, PA: 0x7000_0000, Domain: 5, Leaf: api.Leaf{AP: 3, Bits: 14, NG: asid != api.AnyAsid}}}
	if size == api.Super {
		b.Trans.Domain = 0
	}
	return b
}

// pageOf: the small block of a number of page.
func pageOf(n, asid int) api.Block { return blockAt(api.Small, uint32(n)*page, asid) }

// right: what the chapter, and P506 of chapter 5, call a right block.
func right(b api.Block) bool {
	bytes, size := sizes[b.Trans.Size]
	end, domains := uint64(1)<<32, 15
	if b.Trans.Size == api.Super {
		end, domains = 1<<40, 0
	}
	l := b.Trans.Leaf
	if !size || uint64(b.Trans.VA)%bytes != 0 || b.Trans.PA%bytes != 0 || b.Trans.PA >= end {
		return false
	}
	if b.Trans.Domain < 0 || b.Trans.Domain > domains || l.AP < 0 || l.AP > 7 || l.Bits > 63 {
		return false
	}
	if l.NG {
		return b.Asid >= 0 && b.Asid <= 255
	}
	return b.Asid == -1
}

// liesOver: is va one of a right block's addresses?
func liesOver(b api.Block, va uint32) bool {
	first := uint64(b.Trans.VA)
	return uint64(va) >= first && uint64(va) <= first+sizes[b.Trans.Size]-1
}

// over: Over in the chapter's words.
func over(b api.Block, va uint32, asid int) bool {
	return right(b) && liesOver(b, va) && (b.Asid == asid || b.Asid == -1)
}

// dropping: is it one?
func dropping(d api.Tlbi) bool {
	asid := d.Asid >= 0 && d.Asid <= 255
	switch d.Kind {
	case api.TlbiAll:
		return d.Va == 0 && d.Asid == 0
	case api.TlbiMva:
		return asid
	case api.TlbiAsid:
		return asid && d.Va == 0
	case api.TlbiMvaa:
		return d.Asid == 0
	}
	return false
}

// takes: Takes in the chapter's words.
func takes(d api.Tlbi, b api.Block) bool {
	if !dropping(d) || !right(b) {
		return false
	}
	switch d.Kind {
	case api.TlbiMva:
		return over(b, d.Va, d.Asid)
	case api.TlbiAsid:
		return b.Trans.Leaf.NG && b.Asid == d.Asid
	case api.TlbiMvaa:
		return liesOver(b, d.Va)
	}
	return true
}

// pair: a TLB, and what must stand in its places. Each call is made of the one, and held against the other.
type pair struct {
	*testing.T
	x   *tlb.TLB
	row []api.Slot
}

func newPair(t *testing.T, places int) *pair {
	t.Helper()
	x, e := tlb.New(places)
	if e != api.OK || x == nil {
		t.Fatalf("New(%d) = %v, %d", places, x, e)
	}
	p := &pair{T: t, x: x, row: make([]api.Slot, places)}
	p.state()
	return p
}

// state: Places, Len and Cap.
func (p *pair) state() {
	p.Helper()
	count := 0
	for _, s := range p.row {
		if s.Full {
			count++
		}
	}
	if got := p.x.Places(); !slices.Equal(got, p.row) {
		p.Fatalf("Places = %+v, want %+v", got, p.row)
	}
	if p.x.Len() != count || p.x.Cap() != len(p.row) {
		p.Fatalf("Len, Cap = %d, %d, want %d, %d", p.x.Len(), p.x.Cap(), count, len(p.row))
	}
}

// look: Look, and that it changes nothing.
func (p *pair) look(va uint32, asid int) (api.Block, int) {
	p.Helper()
	var want api.Block
	count := 0
	for _, s := range p.row {
		if s.Full && over(s.Block, va, asid) {
			want = s.Block
			count++
		}
	}
	if count != 1 {
		want = api.Block{}
	}
	if b, n := p.x.Look(va, asid); b != want || n != count {
		p.Fatalf("Look(%#x, %d) = %+v, %d, want %+v, %d", va, asid, b, n, want, count)
	}
	p.state()
	return want, count
}

// placeFor: where a right block goes.
func (p *pair) placeFor(b api.Block, pick int) int {
	empty := -1
	for i, s := range p.row {
		if s.Full && s.Block == b {
			return i
		}
		if !s.Full && empty < 0 {
			empty = i
		}
	}
	if empty >= 0 {
		return empty
	}
	n := len(p.row)
	return (pick%n + n) % n
}

func (p *pair) put(b api.Block, pick int) int {
	p.Helper()
	want, err := 0, api.ErrEntry
	if right(b) {
		want, err = p.placeFor(b, pick), api.OK
		p.row[want] = api.Slot{Full: true, Block: b}
	}
	if i, e := p.x.Put(b, pick); i != want || e != err {
		p.Fatalf("Put(%+v, %d) = %d, %d, want %d, %d", b, pick, i, e, want, err)
	}
	p.state()
	return want
}

func (p *pair) evict(place int) bool {
	p.Helper()
	want := false
	if place >= 0 && place < len(p.row) {
		want = p.row[place].Full
		p.row[place] = api.Slot{}
	}
	if got := p.x.Evict(place); got != want {
		p.Fatalf("Evict(%d) = %v", place, got)
	}
	p.state()
	return want
}

func (p *pair) flush(d api.Tlbi) int {
	p.Helper()
	want := 0
	for i, s := range p.row {
		if s.Full && takes(d, s.Block) {
			p.row[i] = api.Slot{}
			want++
		}
	}
	if got := p.x.Flush(d); got != want {
		p.Fatalf("Flush(%+v) = %d, want %d", d, got, want)
	}
	p.state()
	return want
}

// fill: each of the places gets a page of its own, 0 of the first place and so on, of that ASID.
func (p *pair) fill(asid int) {
	p.Helper()
	for i := range p.row {
		p.put(pageOf(i, asid), 0)
	}
}

// checkBlock: Right, Over and Takes of one block at one address, with each ASID and dropping of the lists.
func checkBlock(t *testing.T, b api.Block, va uint32, asids []int) {
	t.Helper()
	if tlb.Right(b) != right(b) {
		t.Fatalf("Right(%+v) = %v", b, tlb.Right(b))
	}
	for _, asid := range asids {
		if got := tlb.Over(b, va, asid); got != over(b, va, asid) {
			t.Fatalf("Over(%+v, %#x, %d) = %v", b, va, asid, got)
		}
		for kind := -1; kind <= 6; kind++ {
			for _, d := range []api.Tlbi{{Kind: kind}, {Kind: kind, Va: va}, {Kind: kind, Asid: asid}, {Kind: kind, Va: va, Asid: asid}} {
				if got := tlb.Takes(d, b); got != takes(d, b) {
					t.Fatalf("Takes(%+v, %+v) = %v", d, b, got)
				}
			}
		}
	}
}

func wantLook(t *testing.T, x *tlb.TLB, va uint32, asid int, want api.Block, count int) {
	t.Helper()
	if b, n := x.Look(va, asid); b != want || n != count {
		t.Errorf("Look(%#x, %d) = %+v, %d, want %+v, %d", va, asid, b, n, want, count)
	}
}

func wantPut(t *testing.T, x *tlb.TLB, b api.Block, pick, place int, err api.Errno) {
	t.Helper()
	if i, e := x.Put(b, pick); i != place || e != err {
		t.Errorf("Put(%+v, %d) = %d, %d, want %d, %d", b, pick, i, e, place, err)
	}
}

func wantFlush(t *testing.T, x *tlb.TLB, d api.Tlbi, want int) {
	t.Helper()
	if n := x.Flush(d); n != want {
		t.Errorf("Flush(%+v) = %d, want %d", d, n, want)
	}
}

func TestExamples(t *testing.T) {
	x, e := tlb.New(2)
	if e != api.OK {
		t.Fatal(e)
	}
	a, g, none := exampleA, exampleG, api.Block{}
	wantPut(t, x, a, 0, 0, api.OK)
	wantPut(t, x, a, 1, 0, api.OK)
	if x.Len() != 1 {
		t.Errorf("Len = %d", x.Len())
	}
	wantLook(t, x, 0x00010fff, 7, a, 1)
	wantLook(t, x, 0x00010000, 8, none, 0)
	wantLook(t, x, 0x00011000, 7, none, 0)
	wantPut(t, x, g, 0, 1, api.OK)
	wantLook(t, x, 0x00010004, 7, none, 2)
	wantLook(t, x, 0x00010004, 8, g, 1)
	wantFlush(t, x, api.Tlbi{Kind: api.TlbiAsid, Asid: 8}, 0)
	wantFlush(t, x, api.Tlbi{Kind: api.TlbiMva, Va: 0x00010abc, Asid: 8}, 1)
	if got := x.Places(); !slices.Equal(got, []api.Slot{{Full: true, Block: a}, {}}) {
		t.Errorf("Places = %+v", got)
	}
	wantPut(t, x, g, 0, 1, api.OK)
	nine := a
	nine.Asid = 9
	wantPut(t, x, nine, -1, 1, api.OK)
	if got := x.Places(); !slices.Equal(got, []api.Slot{{Full: true, Block: a}, {Full: true, Block: nine}}) {
		t.Errorf("Places = %+v", got)
	}
	if !x.Evict(1) || x.Evict(1) || x.Evict(2) {
		t.Error("Evict")
	}
	odd := a
	odd.Trans.VA = 0x00010800
	wantPut(t, x, odd, 0, 0, api.ErrEntry)
	wantFlush(t, x, api.Tlbi{Kind: api.TlbiAll, Va: 1}, 0)
	if y, e := tlb.New(65); y != nil || e != api.ErrCap {
		t.Errorf("New(65) = %v, %d", y, e)
	}
	if !tlb.Takes(api.Tlbi{Kind: api.TlbiMvaa, Va: 0x000fffff}, g) || tlb.Takes(api.Tlbi{Kind: api.TlbiMvaa, Va: 0x00100000}, g) {
		t.Error("Takes")
	}
	if got := x.Places(); !slices.Equal(got, []api.Slot{{Full: true, Block: a}, {}}) || x.Len() != 1 || x.Cap() != 2 {
		t.Errorf("Places = %+v", got)
	}
}

func TestNew(t *testing.T) {
	for _, n := range []int{math.MinInt, math.MinInt + 1, math.MinInt32, -64, -2, -1, 0, 65, 66, 128, 257, 1 << 16, 1 << 32, 1<<32 + 1, math.MaxInt32, math.MaxInt - 1, math.MaxInt} {
		if x, e := tlb.New(n); x != nil || e != api.ErrCap {
			t.Errorf("New(%d) = %v, %d", n, x, e)
		}
	}
	for n := 1; n <= 64; n++ {
		p := newPair(t, n)
		for _, va := range []uint32{0, 1, page, last} {
			for _, asid := range []int{0, 7, 255, api.AnyAsid} {
				p.look(va, asid)
			}
		}
		p.fill(3)
		if p.x.Len() != n || p.x.Cap() != n {
			t.Errorf("Len, Cap = %d, %d, want %d", p.x.Len(), p.x.Cap(), n)
		}
	}
}

// TestLookInAnEmptyOne: an empty place is no block, though its zero VA, Asid and Size would have an address 0.
func TestLookInAnEmptyOne(t *testing.T) {
	for _, n := range []int{1, 2, 64} {
		p := newPair(t, n)
		for range 2 {
			for _, va := range []uint32{0, 1, 0xfff, page, 1 << 31, last} {
				for _, asid := range append([]int{0, 1, 255}, noAsids...) {
					if b, count := p.look(va, asid); count != 0 || b != (api.Block{}) {
						t.Errorf("Look(%#x, %d) = %+v, %d", va, asid, b, count)
					}
				}
			}
			p.put(pageOf(0, 0), 0) // and emptied again
			p.evict(0)
		}
	}
}

func TestLookCounts(t *testing.T) {
	p := newPair(t, 64)
	for n := 1; n <= 63; n++ {
		b := pageOf(9, 7)
		b.Trans.PA = uint64(n) * page
		p.put(b, 0)
		got, count := p.look(9*page+5, 7)
		if count != n || (n > 1 && got != api.Block{}) || (n == 1 && got != b) {
			t.Fatalf("%d: %+v, %d", n, got, count)
		}
		if _, count := p.look(9*page+5, 8); count != 0 {
			t.Fatalf("%d of the ASID 8", count)
		}
	}
	p.put(blockAt(api.Section, 0, api.AnyAsid), 0)
	if b, count := p.look(9*page, 7); count != 64 || b != (api.Block{}) {
		t.Fatalf("%+v, %d", b, count)
	}
	for place := range 63 {
		p.evict(place)
		if _, count := p.look(9*page, 7); count != 63-place {
			t.Fatalf("%d behind %d", count, place)
		}
	}
}

// TestTwoMatch: P10.4, of a global block and one of the ASID, of two sizes.
func TestTwoMatch(t *testing.T) {
	global, own := blockAt(api.Section, 0x300000, api.AnyAsid), blockAt(api.Large, 0x310000, 7)
	for _, first := range []bool{true, false} {
		p := newPair(t, 3)
		blocks := []api.Block{global, own}
		if !first {
			slices.Reverse(blocks)
		}
		p.put(blocks[0], 0)
		p.put(blocks[1], 0)
		wantLook(t, p.x, 0x310000, 7, api.Block{}, 2)
		wantLook(t, p.x, 0x31ffff, 7, api.Block{}, 2)
		wantLook(t, p.x, 0x30ffff, 7, global, 1)
		wantLook(t, p.x, 0x320000, 7, global, 1)
		wantLook(t, p.x, 0x310000, 8, global, 1)
		for _, asid := range noAsids {
			wantLook(t, p.x, 0x310000, asid, global, 1)
		}
		p.flush(api.Tlbi{Kind: api.TlbiAsid, Asid: 7})
		wantLook(t, p.x, 0x310000, 7, global, 1)
	}
}

// TestAsidsOfALook: each ASID finds its own, and what is no ASID finds global ones alone.
func TestAsidsOfALook(t *testing.T) {
	for own := range 256 {
		p := newPair(t, 2)
		b := pageOf(4, own)
		p.put(b, 0)
		for asid := -300; asid < 600; asid++ {
			want, count := api.Block{}, 0
			if asid == own {
				want, count = b, 1
			}
			wantLook(t, p.x, 4*page, asid, want, count)
		}
		for _, asid := range append([]int{own + 256, own - 256, own + 1<<32, own + math.MinInt}, noAsids...) {
			wantLook(t, p.x, 4*page, asid, api.Block{}, 0)
		}
		global := pageOf(5, api.AnyAsid)
		p.put(global, 0)
		for _, asid := range append([]int{0, 1, own, 255}, noAsids...) {
			wantLook(t, p.x, 5*page, asid, global, 1)
		}
	}
}

func ones(b bool) int {
	if b {
		return 1
	}
	return 0
}

// TestEndsOfBlocks: the first and the last byte, and those beside them, by each call that asks where a block lies.
func TestEndsOfBlocks(t *testing.T) {
	for size, bytes := range sizes {
		for _, first := range []uint64{0, bytes, 7 * bytes, 1 << 31, 1<<32 - 2*bytes, 1<<32 - bytes} {
			for _, asid := range []int{7, api.AnyAsid} {
				b := blockAt(size, uint32(first), asid)
				end := first + bytes
				for _, at := range []uint64{first, first + 1, first + bytes/2, end - page, end - 1} {
					lies(t, b, uint32(at), true)
				}
				// Those beyond an end of the addresses come round to the other.
				for _, at := range []uint64{first - 1, first - page, first - bytes, end, end + 1, end + page, end + bytes - 1} {
					lies(t, b, uint32(at), false)
				}
			}
		}
	}
}

// lies: whether the block lies over va, as each call tells it.
func lies(t *testing.T, b api.Block, va uint32, want bool) {
	t.Helper()
	if got := tlb.Over(b, va, 7); got != want {
		t.Fatalf("Over(%+v, %#x) = %v", b, va, got)
	}
	checkBlock(t, b, va, []int{0, 7, 8, 255, 256, -1, -2})
	p := newPair(t, 2)
	p.put(b, 0)
	if _, n := p.look(va, 7); n != ones(want) {
		t.Fatalf("Look(%#x) of %+v: %d", va, b, n)
	}
	for _, d := range []api.Tlbi{{Kind: api.TlbiMva, Va: va, Asid: 7}, {Kind: api.TlbiMvaa, Va: va}} {
		if tlb.Takes(d, b) != want {
			t.Fatalf("Takes(%+v, %+v) = %v", d, b, !want)
		}
		if n := p.flush(d); n != ones(want) {
			t.Fatalf("Flush(%+v) of %+v: %d", d, b, n)
		}
		p.put(b, 0)
	}
}

// wrongs: blocks that are not right by one field of a right one of that size.
func wrongs(size int) []api.Block {
	own := blockAt(size, 0x7000_0000, 7)
	global := blockAt(size, 0x7000_0000, api.AnyAsid)
	end := uint64(1) << 32
	if size == api.Super {
		end = 1 << 40
	}
	var l []api.Block
	wrong := func(change func(*api.Block)) {
		for _, b := range []api.Block{own, global} {
			change(&b)
			l = append(l, b)
		}
	}
	for _, n := range []int{math.MinInt, -4, -1, 0, 5, 6, 256 + size, 1<<32 + size, math.MaxInt} {
		wrong(func(b *api.Block) { b.Trans.Size = n })
	}
	for bit := uint64(1); bit < sizes[size]; bit *= 2 {
		wrong(func(b *api.Block) { b.Trans.VA |= uint32(bit) })
		wrong(func(b *api.Block) { b.Trans.PA |= bit })
	}
	for _, pa := range []uint64{end, end + sizes[size], 1 << 63, -sizes[size]} {
		wrong(func(b *api.Block) { b.Trans.PA = pa })
	}
	for _, n := range noDomains {
		wrong(func(b *api.Block) { b.Trans.Domain = n })
		wrong(func(b *api.Block) { b.Trans.Leaf.AP = n })
	}
	wrong(func(b *api.Block) { b.Trans.Leaf.AP = 8 })
	for _, n := range []uint32{64, 65, 128, 1 << 31, last} {
		wrong(func(b *api.Block) { b.Trans.Leaf.Bits = n })
	}
	if size == api.Super {
		wrong(func(b *api.Block) { b.Trans.Domain = 1 })
		wrong(func(b *api.Block) { b.Trans.Domain = 15 })
	}
	wrong(func(b *api.Block) { b.Trans.Leaf.NG = !b.Trans.Leaf.NG }) // AnyAsid with NG, an ASID without it
	for _, n := range noAsids {
		own.Asid = n
		l = append(l, own)
		if n != api.AnyAsid {
			global.Asid = n
			l = append(l, global)
		}
	}
	for _, n := range []int{0, 1, 7, 255} {
		global.Asid = n
		l = append(l, global)
	}
	return append(l, api.Block{}, api.Block{Asid: api.AnyAsid})
}

func TestWrongBlocks(t *testing.T) {
	for size := range sizes {
		empty, half, full := newPair(t, 2), newPair(t, 3), newPair(t, 2)
		half.put(blockAt(size, 0x7000_0000, 7), 0)
		full.fill(9)
		for _, b := range wrongs(size) {
			if right(b) || tlb.Right(b) {
				t.Fatalf("%+v is right", b)
			}
			for _, p := range []*pair{empty, half, full} {
				for _, pick := range []int{0, 1, -1, math.MinInt, math.MaxInt} {
					wantPut(t, p.x, b, pick, 0, api.ErrEntry)
					p.state()
				}
			}
			for _, va := range []uint32{b.Trans.VA, b.Trans.VA + 1, b.Trans.VA | 0xfff, 0, 0x7000_0000, last} {
				for _, asid := range []int{b.Asid, 0, 7, 255, api.AnyAsid} {
					if tlb.Over(b, va, asid) {
						t.Fatalf("%+v lies over %#x", b, va)
					}
					for _, d := range []api.Tlbi{{Kind: api.TlbiAll}, {Kind: api.TlbiMva, Va: va, Asid: asid}, {Kind: api.TlbiAsid, Asid: asid}, {Kind: api.TlbiMvaa, Va: va}} {
						if tlb.Takes(d, b) {
							t.Fatalf("%+v takes %+v", d, b)
						}
					}
				}
			}
		}
	}
}

func TestRightBlocks(t *testing.T) {
	for size, bytes := range sizes {
		end, domains := uint64(1)<<32, 15
		if size == api.Super {
			end, domains = 1<<40, 0
		}
		p := newPair(t, 1)
		for _, va := range []uint32{0, uint32(bytes), -uint32(bytes)} {
			for _, pa := range []uint64{0, bytes, end - bytes} {
				for _, domain := range []int{0, domains} {
					for _, l := range []api.Leaf{{}, {AP: 7}, {Bits: 63}, {XN: true}, {NG: true}, {AP: 7, Bits: 63, NG: true, XN: true}} {
						b := api.Block{Asid: api.AnyAsid, Trans: api.Trans{Size: size, VA: va, PA: pa, Domain: domain, Leaf: l}}
						if l.NG {
							b.Asid = 255
						}
						if !tlb.Right(b) {
							t.Fatalf("%+v is not right", b)
						}
						p.put(b, 5)
						wantLook(t, p.x, va, 255, b, 1)
						checkBlock(t, b, va, []int{0, 255, -1, 256})
					}
				}
			}
		}
		for asid := range 256 {
			b := blockAt(size, 0, asid)
			if !tlb.Right(b) {
				t.Fatalf("%+v is not right", b)
			}
			p.put(b, asid)
		}
	}
}

// TestPutAgain: P10.2 and P10.5: a block that is there stays where it is, in a full TLB too, whatever the pick.
func TestPutAgain(t *testing.T) {
	for _, n := range []int{1, 2, 3, 64} {
		p := newPair(t, n)
		for i := range n {
			p.put(pageOf(i, 7), 0)
			for j := range i + 1 {
				wantPut(t, p.x, pageOf(j, 7), j+1, j, api.OK)
				p.state()
			}
		}
		for _, pick := range []int{0, 1, 2, n, n + 1, -1, math.MaxInt, math.MinInt} {
			for i := range n {
				wantPut(t, p.x, pageOf(i, 7), pick, i, api.OK)
				p.state()
			}
		}
	}
	// With an empty place ahead of it, too.
	p := newPair(t, 3)
	p.fill(7)
	p.evict(0)
	wantPut(t, p.x, pageOf(2, 7), 0, 2, api.OK)
	p.state()
	wantPut(t, p.x, pageOf(1, 7), 0, 1, api.OK)
	p.state()
}

// others: right blocks that differ from a large one of the ASID 7 in one field alone (in NG: and so in the ASID).
func others() []api.Block {
	change := []func(*api.Block){
		func(b *api.Block) { b.Asid = 8 },
		func(b *api.Block) { b.Trans.Size = api.Small },
		func(b *api.Block) { b.Trans.VA += 0x10000 },
		func(b *api.Block) { b.Trans.PA += 0x10000 },
		func(b *api.Block) { b.Trans.Domain++ },
		func(b *api.Block) { b.Trans.Leaf.AP++ },
		func(b *api.Block) { b.Trans.Leaf.Bits++ },
		func(b *api.Block) { b.Trans.Leaf.NG, b.Asid = false, api.AnyAsid },
		func(b *api.Block) { b.Trans.Leaf.XN = true },
	}
	var l []api.Block
	for _, c := range change {
		b := blockAt(api.Large, 0x40000, 7)
		c(&b)
		l = append(l, b)
	}
	return l
}

func TestPutOfAnotherBlock(t *testing.T) {
	b := blockAt(api.Large, 0x40000, 7)
	all := newPair(t, 10)
	all.put(b, 0)
	for i, o := range others() {
		p := newPair(t, 2)
		wantPut(t, p.x, b, 0, 0, api.OK)
		wantPut(t, p.x, o, 0, 1, api.OK)
		if got := p.x.Places(); !slices.Equal(got, []api.Slot{{Full: true, Block: b}, {Full: true, Block: o}}) {
			t.Errorf("%+v: %+v", o, got)
		}
		one := newPair(t, 1)
		one.put(b, 0)
		one.put(o, 0)
		if place := all.put(o, 0); place != i+1 {
			t.Errorf("%+v in %d", o, place)
		}
	}
	for i, o := range others() {
		if place := all.put(o, 3); place != i+1 {
			t.Errorf("%+v in %d", o, place)
		}
	}
}

func TestPutIntoTheLowestEmpty(t *testing.T) {
	for _, empties := range [][]int{{0}, {5}, {2, 4}, {0, 5}, {1, 2, 3}, {4, 0, 3}, {5, 4, 3, 2, 1, 0}} {
		p := newPair(t, 6)
		p.fill(7)
		for _, i := range empties {
			p.evict(i)
		}
		slices.Sort(empties)
		for i, want := range empties {
			wantPut(t, p.x, pageOf(100+i, 9), 5-want, want, api.OK)
			p.row[want] = api.Slot{Full: true, Block: pageOf(100+i, 9)}
			p.state()
		}
	}
}

// picks: by the place that each of them gives up in a TLB of 3.
var picks = map[int]int{
	0: 0, 1: 1, 2: 2, 3: 0, 4: 1, 5: 2, 63: 0, 64: 1, 1 << 32: 1, math.MaxInt32: 1,
	-1: 2, -2: 1, -3: 0, -4: 2, -5: 1, -6: 0, math.MinInt32: 1,
	math.MaxInt: 1, math.MaxInt - 1: 0, math.MinInt: 1, math.MinInt + 1: 2,
}

func TestPutIntoAFullOne(t *testing.T) {
	for pick, want := range picks {
		p := newPair(t, 3)
		p.fill(7)
		wantPut(t, p.x, pageOf(50, 9), pick, want, api.OK)
		p.row[want] = api.Slot{Full: true, Block: pageOf(50, 9)}
		p.state()
	}
	for n := 1; n <= 64; n++ {
		p := newPair(t, n)
		p.fill(7)
		for i, pick := range []int{0, 1, n - 1, n, n + 1, 2*n + 1, -1, -n, -n - 1, 1 - n, math.MaxInt, math.MinInt} {
			p.put(pageOf(100+i, 9), pick)
		}
		if p.x.Len() != n {
			t.Errorf("Len = %d", p.x.Len())
		}
	}
	p := newPair(t, 64)
	p.fill(7)
	wantPut(t, p.x, pageOf(100, 9), math.MaxInt, 63, api.OK)
	wantPut(t, p.x, pageOf(101, 9), math.MinInt, 0, api.OK)
	wantPut(t, p.x, pageOf(102, 9), -1, 63, api.OK)
}

// TestBlocksStayBeside: what lies over the same addresses is not given up for a new block.
func TestBlocksStayBeside(t *testing.T) {
	p := newPair(t, 5)
	for _, b := range []api.Block{pageOf(16, 7), blockAt(api.Large, 0x10000, 7), blockAt(api.Section, 0, 7), blockAt(api.Super, 0, api.AnyAsid)} {
		p.put(b, 0)
	}
	if _, n := p.look(0x10000, 7); n != 4 || p.x.Len() != 4 {
		t.Errorf("%d of %d", n, p.x.Len())
	}
}

func TestEvict(t *testing.T) {
	for _, n := range []int{1, 3, 64} {
		p := newPair(t, n)
		for place := range n {
			if p.evict(place) {
				t.Errorf("%d of %d was empty", place, n)
			}
		}
		p.fill(7)
		for _, place := range []int{math.MinInt, math.MinInt + 1, math.MinInt32, -64, -2, -1, n, n + 1, 2 * n, 64, 65, 256, 1 << 32, 1<<32 + 1, math.MaxInt - 1, math.MaxInt} {
			if p.evict(place) {
				t.Errorf("Evict(%d) of %d", place, n)
			}
		}
		if p.x.Len() != n {
			t.Errorf("Len = %d", p.x.Len())
		}
		for place := n - 1; place >= 0; place-- {
			if !p.evict(place) || p.evict(place) {
				t.Errorf("Evict(%d) of %d", place, n)
			}
			wantLook(t, p.x, uint32(place)*page, 7, api.Block{}, 0)
		}
		if p.x.Len() != 0 || p.x.Cap() != n {
			t.Errorf("Len, Cap = %d, %d", p.x.Len(), p.x.Cap())
		}
	}
}

// mixed: own blocks of two ASIDs and global ones, of all sizes, and an empty place between.
func mixed(t *testing.T) *pair {
	t.Helper()
	p := newPair(t, 10)
	for _, b := range []api.Block{
		pageOf(0x410, 7),
		pageOf(0x410, 8),
		pageOf(0x411, 7),
		pageOf(1, 0),
		blockAt(api.Large, 0x410000, 7),
		blockAt(api.Large, 0x410000, api.AnyAsid),
		blockAt(api.Section, 0x400000, api.AnyAsid),
		blockAt(api.Super, 0, 255),
		blockAt(api.Super, 0xff00_0000, 7),
	} {
		p.put(b, 0)
	}
	p.evict(3)
	return p
}

func TestFlush(t *testing.T) {
	for _, c := range []struct {
		d    api.Tlbi
		gone []int
	}{
		{api.Tlbi{Kind: api.TlbiAll}, []int{0, 1, 2, 4, 5, 6, 7, 8}},
		{api.Tlbi{Kind: api.TlbiMva, Va: 0x410000, Asid: 7}, []int{0, 4, 5, 6}},
		{api.Tlbi{Kind: api.TlbiMva, Va: 0x410abc, Asid: 7}, []int{0, 4, 5, 6}},
		{api.Tlbi{Kind: api.TlbiMva, Va: 0x410fff, Asid: 8}, []int{1, 5, 6}},
		{api.Tlbi{Kind: api.TlbiMva, Va: 0x411001, Asid: 7}, []int{2, 4, 5, 6}},
		{api.Tlbi{Kind: api.TlbiMva, Va: 0x410fff, Asid: 0}, []int{5, 6}},
		{api.Tlbi{Kind: api.TlbiMva, Va: 0x400000, Asid: 255}, []int{6, 7}},
		{api.Tlbi{Kind: api.TlbiMva, Va: 0xffffff, Asid: 255}, []int{7}},
		{api.Tlbi{Kind: api.TlbiMva, Va: 0x1000000, Asid: 255}, nil},
		{api.Tlbi{Kind: api.TlbiMva, Va: last, Asid: 7}, []int{8}},
		{api.Tlbi{Kind: api.TlbiMva, Va: last, Asid: 8}, nil},
		{api.Tlbi{Kind: api.TlbiAsid, Asid: 7}, []int{0, 2, 4, 8}},
		{api.Tlbi{Kind: api.TlbiAsid, Asid: 8}, []int{1}},
		{api.Tlbi{Kind: api.TlbiAsid, Asid: 255}, []int{7}},
		{api.Tlbi{Kind: api.TlbiAsid}, nil},
		{api.Tlbi{Kind: api.TlbiMvaa, Va: 0x410000}, []int{0, 1, 4, 5, 6, 7}},
		{api.Tlbi{Kind: api.TlbiMvaa, Va: 0x410123}, []int{0, 1, 4, 5, 6, 7}},
		{api.Tlbi{Kind: api.TlbiMvaa, Va: 0x41ffff}, []int{4, 5, 6, 7}},
		{api.Tlbi{Kind: api.TlbiMvaa, Va: 0}, []int{7}},
		{api.Tlbi{Kind: api.TlbiMvaa, Va: 0xff000000}, []int{8}},
		{api.Tlbi{Kind: api.TlbiMvaa, Va: 0xfeffffff}, nil},
	} {
		p := mixed(t)
		want := p.x.Places()
		for _, i := range c.gone {
			if !tlb.Takes(c.d, want[i].Block) {
				t.Errorf("%+v does not take %+v", c.d, want[i].Block)
			}
			want[i] = api.Slot{}
		}
		for _, s := range want {
			if s.Full && tlb.Takes(c.d, s.Block) {
				t.Errorf("%+v takes %+v", c.d, s.Block)
			}
		}
		wantFlush(t, p.x, c.d, len(c.gone))
		if got := p.x.Places(); !slices.Equal(got, want) || p.x.Len() != 8-len(c.gone) || p.x.Cap() != 10 {
			t.Errorf("%+v: %+v, want %+v", c.d, got, want)
		}
		wantFlush(t, p.x, c.d, 0)
	}
}

// TestFlushOfWhatIsNoDropping: each by one field.
func TestFlushOfWhatIsNoDropping(t *testing.T) {
	var l []api.Tlbi
	for _, kind := range []int{math.MinInt, -4, -1, 0, 5, 6, 256 + api.TlbiAll, 1<<32 + api.TlbiAll, math.MaxInt} {
		l = append(l, api.Tlbi{Kind: kind}, api.Tlbi{Kind: kind, Va: 0x410000}, api.Tlbi{Kind: kind, Asid: 7}, api.Tlbi{Kind: kind, Va: 0x410000, Asid: 7})
	}
	for _, va := range []uint32{1, 0xfff, page, 0x410000, 1 << 31, last} {
		l = append(l, api.Tlbi{Kind: api.TlbiAll, Va: va}, api.Tlbi{Kind: api.TlbiAsid, Va: va, Asid: 7}, api.Tlbi{Kind: api.TlbiAsid, Va: va})
	}
	for _, asid := range append([]int{1, 7, 8, 255}, noAsids...) {
		l = append(l, api.Tlbi{Kind: api.TlbiAll, Asid: asid}, api.Tlbi{Kind: api.TlbiMvaa, Va: 0x410000, Asid: asid})
	}
	for _, asid := range noAsids {
		l = append(l, api.Tlbi{Kind: api.TlbiMva, Va: 0x410000, Asid: asid}, api.Tlbi{Kind: api.TlbiAsid, Asid: asid})
	}
	p := mixed(t)
	before := p.x.Places()
	for _, d := range l {
		if dropping(d) {
			t.Fatalf("%+v is one", d)
		}
		wantFlush(t, p.x, d, 0)
		p.state()
		for _, s := range before {
			if tlb.Takes(d, s.Block) {
				t.Fatalf("%+v takes %+v", d, s.Block)
			}
		}
	}
	if !slices.Equal(p.x.Places(), before) {
		t.Error("it is another")
	}
}

// TestPlacesAreNew: rule 4: what was handed out is the caller's alone, its spare room too.
func TestPlacesAreNew(t *testing.T) {
	p := mixed(t)
	junk := api.Slot{Full: true, Block: pageOf(77, 77)}
	got, again := p.x.Places(), p.x.Places()
	kept := slices.Clone(again)
	if len(got) != 10 || got[3] != (api.Slot{}) || got[9] != (api.Slot{}) || !got[4].Full {
		t.Fatalf("%+v", got)
	}
	got = got[:cap(got)]
	for i := range got {
		got[i] = junk
	}
	got = append(got, junk)
	p.state()
	if !slices.Equal(again, kept) {
		t.Error("two answers share memory")
	}
	wantLook(t, p.x, 77*page, 77, api.Block{}, 0)
	p.put(pageOf(1, 1), 0)
	p.put(pageOf(2, 2), 0)
	p.put(pageOf(3, 3), 0)
	p.evict(5)
	p.flush(api.Tlbi{Kind: api.TlbiAsid, Asid: 7})
	if !slices.Equal(again, kept) {
		t.Error("what was handed out has changed")
	}
	for i := range got {
		if got[i] != junk {
			t.Error("what was handed out has changed")
		}
	}
}

// TestTwoShareNothing: rule 5.
func TestTwoShareNothing(t *testing.T) {
	one, two := newPair(t, 4), newPair(t, 4)
	one.fill(7)
	two.state()
	two.put(pageOf(0, 7), 3)
	one.flush(api.Tlbi{Kind: api.TlbiAll})
	two.state()
	two.look(0, 7)
	two.evict(0)
	one.state()
}

// TestByPageAndByAll: P10.6, of blocks of each size and each of their pages (of the great ones: some).
func TestByPageAndByAll(t *testing.T) {
	r := rand.New(rand.NewSource(1006))
	for size, bytes := range sizes {
		for _, asid := range []int{0, 7, 255, api.AnyAsid} {
			b := blockAt(size, uint32(3*bytes), asid)
			for i := range min(int(bytes/page), 40) {
				at := b.Trans.VA + uint32(i*page)
				if i > 20 {
					at = b.Trans.VA + uint32(r.Int63n(int64(bytes)))
				}
				own := asid
				if asid == api.AnyAsid {
					own = r.Intn(256)
				}
				if !tlb.Takes(api.Tlbi{Kind: api.TlbiMva, Va: at, Asid: own}, b) {
					t.Fatalf("%+v at %#x of %d", b, at, own)
				}
				if !tlb.Takes(api.Tlbi{Kind: api.TlbiMvaa, Va: at ^ uint32(r.Intn(page))}, b) {
					t.Fatalf("%+v at %#x", b, at)
				}
			}
			if !tlb.Takes(api.Tlbi{Kind: api.TlbiAll}, b) {
				t.Fatalf("%+v", b)
			}
			for a := range 256 {
				if tlb.Takes(api.Tlbi{Kind: api.TlbiAsid, Asid: a}, b) != (a == asid) {
					t.Fatalf("%+v of %d", b, a)
				}
			}
		}
	}
}

// someAsid: of few, so that blocks meet; now and then one that is none.
func someAsid(r *rand.Rand) int {
	if r.Intn(8) == 0 {
		return noAsids[r.Intn(len(noAsids))]
	}
	return []int{0, 7, 8, 255}[r.Intn(4)]
}

// someVA: in the first or the last few MiB.
func someVA(r *rand.Rand) uint32 {
	va := uint32(r.Intn(1 << 18))
	switch r.Intn(6) {
	case 0:
		va = uint32(r.Intn(1 << 25))
	case 1:
		va = 0
	}
	if r.Intn(3) == 0 {
		return last - va
	}
	return va
}

// someBlock: mostly right, and often one that was there before.
func someBlock(r *rand.Rand) api.Block {
	size := 1 + r.Intn(4)
	asid := []int{api.AnyAsid, 0, 7, 8, 255}[r.Intn(5)]
	b := blockAt(size, someVA(r)&-uint32(sizes[size]), asid)
	b.Trans.PA += uint64(r.Intn(2)) * sizes[size]
	switch r.Intn(30) {
	case 0:
		b.Trans.Leaf.NG = !b.Trans.Leaf.NG
	case 1:
		b.Asid = someAsid(r)
	case 2:
		b.Trans.VA ^= 1 << r.Intn(32)
	case 3:
		b.Trans.PA ^= 1 << r.Intn(64)
	case 4:
		b.Trans.Size = r.Intn(7) - 1
	case 5:
		b.Trans.Domain = r.Intn(24) - 4
	case 6:
		b.Trans.Leaf.AP = r.Intn(16) - 4
	case 7:
		b.Trans.Leaf.Bits = uint32(r.Intn(128))
	case 8:
		b.Trans.Leaf.XN = true
	}
	return b
}

func someTlbi(r *rand.Rand) api.Tlbi {
	d := api.Tlbi{Kind: 1 + r.Intn(4)}
	if d.Kind == api.TlbiMva || d.Kind == api.TlbiMvaa || r.Intn(20) == 0 {
		d.Va = someVA(r)
	}
	if d.Kind == api.TlbiMva || d.Kind == api.TlbiAsid || r.Intn(20) == 0 {
		d.Asid = someAsid(r)
	}
	if r.Intn(20) == 0 {
		d.Kind = r.Intn(9) - 2
	}
	return d
}

func somePick(r *rand.Rand) int {
	return []int{r.Intn(8), -r.Intn(80), r.Intn(200), math.MaxInt - r.Intn(70), math.MinInt + r.Intn(70)}[r.Intn(5)]
}

// tally: how often each thing was seen, so that the random calls leave none out.
type tally struct {
	none, one, more, wrong, dropped, notDropped, evicted, notEvicted, full int
}

func TestAnyCalls(t *testing.T) {
	var seen tally
	for seed := range int64(60) {
		r := rand.New(rand.NewSource(seed))
		p := newPair(t, []int{1, 2, 3, 7, 16, 64}[seed%6])
		for range 600 {
			anyCall(r, p, &seen)
		}
	}
	if min(seen.none, seen.one, seen.more, seen.wrong, seen.dropped, seen.notDropped, seen.evicted, seen.notEvicted, seen.full) < 200 {
		t.Errorf("%+v", seen)
	}
}

// anyCall: one call of one pair, and the promises behind it.
func anyCall(r *rand.Rand, p *pair, seen *tally) {
	before := p.x.Places()
	switch r.Intn(12) {
	case 0:
		if p.evict(r.Intn(len(p.row)+2) - 1) {
			seen.evicted++
		} else {
			seen.notEvicted++
		}
	case 1:
		d := someTlbi(r)
		if p.flush(d) > 0 {
			seen.dropped++
		} else {
			seen.notDropped++
		}
		dropped(p, before, d)
	case 2, 3, 4, 5:
		_, n := p.look(someVA(r), someAsid(r))
		seen.none += ones(n == 0)
		seen.one += ones(n == 1)
		seen.more += ones(n > 1)
	default:
		b := someBlock(r)
		seen.full += ones(p.x.Len() == p.x.Cap() && right(b))
		seen.wrong += ones(!right(b))
		p.put(b, somePick(r))
		oneAtATime(p, before)
		checkBlock(p.T, b, someVA(r), []int{someAsid(r), b.Asid})
	}
	noBlockTwice(p)
}

// dropped: P10.3.
func dropped(p *pair, before []api.Slot, d api.Tlbi) {
	p.Helper()
	for i, s := range p.x.Places() {
		if s.Full && tlb.Takes(d, s.Block) {
			p.Fatalf("behind Flush(%+v) %+v is there", d, s.Block)
		}
		if before[i].Full && !tlb.Takes(d, before[i].Block) && s != before[i] {
			p.Fatalf("Flush(%+v) changed %+v", d, before[i])
		}
	}
}

// oneAtATime: P10.5.
func oneAtATime(p *pair, before []api.Slot) {
	p.Helper()
	changed := 0
	for i, s := range p.x.Places() {
		changed += ones(s != before[i])
	}
	if changed > 1 {
		p.Fatalf("%d places have changed", changed)
	}
}

// noBlockTwice: P10.2; and an empty place is the zero Slot, another one has a right block.
func noBlockTwice(p *pair) {
	p.Helper()
	had := map[api.Block]bool{}
	for _, s := range p.x.Places() {
		if s.Full && (had[s.Block] || !tlb.Right(s.Block)) || !s.Full && s != (api.Slot{}) {
			p.Fatalf("%+v", s)
		}
		had[s.Block] = s.Full
	}
}
