package hier_test

import (
	"math"
	"math/rand"
	"slices"
	"testing"

	"atlas/api"
	"atlas/hier"
	"atlas/tlb"
)

const (
	page = 1 << 12
	last = math.MaxUint32
)

var (
	whiches = []int{api.TlbI, api.TlbD, api.TlbMain}
	bools   = []bool{false, true}

	// noTlbs: numbers that are none of the three.
	noTlbs = []int{math.MinInt, math.MinInt + 1, math.MinInt32, -3, -2, -1, 0, 4, 5, 256 + api.TlbI, 1<<32 + api.TlbD, 1<<32 + api.TlbMain, math.MaxInt - 1, math.MaxInt}

	// noAsids: numbers that are no ASID.
	noAsids = []int{math.MinInt, math.MinInt + 3, -256, -253, -2, api.AnyAsid, 256, 259, 1<<32 + 3, math.MaxInt - 1, math.MaxInt}
)

// sizes: of the blocks, with how many bytes they have.
var sizes = map[int]uint64{api.Small: 4096, api.Large: 65536, api.Section: 1048576, api.Super: 16777216}

// blockAt: a right block of that size at VA; global, if the ASID is AnyAsid.
func blockAt(size int, va uint32, asid int) api.Block {
	b := api.Block{Asid: asid, Trans: api.Trans{Size: size, VA: va, PA: 0x7000_0000, Domain: 5, Leaf: api.Leaf{AP: 3, Bits: 14, NG: asid != api.AnyAsid}}}
	if size == api.Super {
		b.Trans.Domain = 0
	}
	return b
}

// pageOf: the small block of a number of page.
func pageOf(n, asid int) api.Block { return blockAt(api.Small, uint32(n)*page, asid) }

// full: the place of a block.
func full(b api.Block) api.Slot { return api.Slot{Full: true, Block: b} }

func ones(b bool) int {
	if b {
		return 1
	}
	return 0
}

// row: what must stand in the places of one TLB.
type row []api.Slot

func (r row) look(va uint32, asid int) (api.Block, int) {
	var found []api.Block
	for _, s := range r {
		if s.Full && tlb.Over(s.Block, va, asid) {
			found = append(found, s.Block)
		}
	}
	if len(found) == 1 {
		return found[0], 1
	}
	return api.Block{}, len(found)
}

func (r row) put(b api.Block, pick int) {
	if slices.Contains(r, full(b)) {
		return
	}
	place := slices.IndexFunc(r, func(s api.Slot) bool { return !s.Full })
	if place < 0 {
		place = (pick%len(r) + len(r)) % len(r)
	}
	r[place] = full(b)
}

// trio: three TLBs, and what must stand in them, by their numbers. Each call is made of the ones, and held against the others.
type trio struct {
	*testing.T
	x    *hier.Hier
	rows [4]row
	kept map[api.Block]bool // by a Keep, and not dropped since
}

func newTrio(t *testing.T, i, d, main int) *trio {
	t.Helper()
	x, e := hier.New(i, d, main)
	if e != api.OK || x == nil {
		t.Fatalf("New(%d, %d, %d) = %v, %d", i, d, main, x, e)
	}
	p := &trio{T: t, x: x, rows: [4]row{nil, make(row, i), make(row, d), make(row, main)}, kept: map[api.Block]bool{}}
	p.state()
	return p
}

// state: Places of the three; and P1107 of what stands in them.
func (p *trio) state() {
	p.Helper()
	for _, which := range whiches {
		got := p.x.Places(which)
		if !slices.Equal(got, p.rows[which]) {
			p.Fatalf("Places(%d) = %+v, want %+v", which, got, p.rows[which])
		}
		for _, s := range got {
			if s.Full && !p.kept[s.Block] {
				p.Fatalf("in the TLB %d stands %+v, which is not kept", which, s.Block)
			}
		}
	}
}

func (p *trio) small(fetch bool) row {
	if fetch {
		return p.rows[api.TlbI]
	}
	return p.rows[api.TlbD]
}

// wantFind: P1102, word by word.
func (p *trio) wantFind(va uint32, asid int, fetch bool, pick int, mainFirst bool) (api.Block, int) {
	small, main := p.small(fetch), p.rows[api.TlbMain]
	inSmall, nSmall := small.look(va, asid)
	inMain, nMain := main.look(va, asid)
	switch {
	case !mainFirst && nSmall >= 2:
		return api.Block{}, 2
	case !mainFirst && nSmall == 1:
		return inSmall, 1
	case nMain >= 2:
		return api.Block{}, 2
	case nMain == 1:
		if nSmall == 0 {
			small.put(inMain, pick)
		}
		return inMain, 1
	case nSmall >= 2:
		return api.Block{}, 2
	}
	return inSmall, nSmall
}

func (p *trio) find(va uint32, asid int, fetch bool, pick int, mainFirst bool) (api.Block, int) {
	p.Helper()
	want, count := p.wantFind(va, asid, fetch, pick, mainFirst)
	b, n := p.x.Find(va, asid, fetch, pick, mainFirst)
	if b != want || n != count {
		p.Fatalf("Find(%#x, %d, %v, %d, %v) = %+v, %d, want %+v, %d", va, asid, fetch, pick, mainFirst, b, n, want, count)
	}
	if n == 1 && (!tlb.Over(b, va, asid) || !p.kept[b]) {
		p.Fatalf("Find(%#x, %d) = %+v, which does not match, or is not kept", va, asid, b)
	}
	p.state()
	return b, n
}

func (p *trio) keep(b api.Block, va uint32, asid int, fetch bool, pick int) api.Errno {
	p.Helper()
	want := api.ErrEntry
	if tlb.Right(b) && tlb.Over(b, va, asid) {
		want = api.OK
		p.kept[b] = true
		for _, r := range []row{p.rows[api.TlbMain], p.small(fetch)} {
			if _, n := r.look(va, asid); n == 0 {
				r.put(b, pick)
			}
		}
	}
	if e := p.x.Keep(b, va, asid, fetch, pick); e != want {
		p.Fatalf("Keep(%+v, %#x, %d, %v, %d) = %d, want %d", b, va, asid, fetch, pick, e, want)
	}
	p.state()
	return want
}

func (p *trio) evict(which, place int) bool {
	p.Helper()
	want := false
	if which >= api.TlbI && which <= api.TlbMain && place >= 0 && place < len(p.rows[which]) {
		want = p.rows[which][place].Full
		p.rows[which][place] = api.Slot{}
	}
	if got := p.x.Evict(which, place); got != want {
		p.Fatalf("Evict(%d, %d) = %v", which, place, got)
	}
	p.state()
	return want
}

func (p *trio) drop(d api.Tlbi) int {
	p.Helper()
	want := 0
	for _, r := range p.rows {
		for i, s := range r {
			if s.Full && tlb.Takes(d, s.Block) {
				r[i] = api.Slot{}
				want++
			}
		}
	}
	for b := range p.kept {
		if tlb.Takes(d, b) {
			delete(p.kept, b)
		}
	}
	if got := p.x.Drop(d); got != want {
		p.Fatalf("Drop(%+v) = %d, want %d", d, got, want)
	}
	p.state()
	return want
}

// take: a block leaves one of the three.
func (p *trio) take(which int, b api.Block) {
	p.Helper()
	p.evict(which, slices.Index(p.rows[which], full(b)))
}

// stands: just these places, one behind the other, have the TLB's number.
func (p *trio) stands(which int, want ...api.Slot) {
	p.Helper()
	if got := p.x.Places(which); !slices.Equal(got, want) {
		p.Errorf("Places(%d) = %+v, want %+v", which, got, want)
	}
}

// finds: what Find answers, said by the caller, and by the rows too.
func (p *trio) finds(va uint32, asid int, fetch, mainFirst bool, want api.Block, count int) {
	p.Helper()
	if b, n := p.find(va, asid, fetch, 0, mainFirst); b != want || n != count {
		p.Errorf("Find(%#x, %d, %v, 0, %v) = %+v, %d, want %+v, %d", va, asid, fetch, mainFirst, b, n, want, count)
	}
}

func TestExamples(t *testing.T) {
	for _, n := range [][3]int{{0, 1, 1}, {1, 1, 65}} {
		if x, e := hier.New(n[0], n[1], n[2]); x != nil || e != api.ErrCap {
			t.Errorf("New%v = %v, %d", n, x, e)
		}
	}
	p := newTrio(t, 1, 1, 2)
	none, b := api.Block{}, pageOf(1, 3)
	p.finds(0x1000, 3, false, false, none, 0)
	p.keep(b, 0x1000, 3, false, 0)
	p.stands(api.TlbMain, full(b), api.Slot{})
	p.stands(api.TlbD, full(b))
	p.stands(api.TlbI, api.Slot{})
	if got, n := p.find(0x1fff, 3, true, 0, false); got != b || n != 1 {
		t.Errorf("%+v, %d", got, n)
	}
	p.stands(api.TlbI, full(b))
	for _, fetch := range bools {
		for _, mainFirst := range bools {
			p.finds(0x1000, 4, fetch, mainFirst, none, 0)
		}
	}
	if e := p.keep(b, 0x2000, 3, false, 0); e != api.ErrEntry {
		t.Errorf("Keep = %d", e)
	}
	section := blockAt(api.Section, 0, 3)
	if e := p.keep(section, 0x5000, 3, false, 0); e != api.OK {
		t.Errorf("Keep = %d", e)
	}
	p.stands(api.TlbMain, full(b), full(section))
	p.stands(api.TlbD, full(section))
	p.stands(api.TlbI, full(b))
	p.finds(0x1000, 3, false, true, none, 2)
	p.finds(0x1000, 3, true, false, b, 1)
	if n := p.drop(api.Tlbi{Kind: api.TlbiAsid, Asid: 3}); n != 4 {
		t.Errorf("Drop = %d", n)
	}
	p.stands(api.TlbMain, api.Slot{}, api.Slot{})
	p.stands(api.TlbD, api.Slot{})
	p.stands(api.TlbI, api.Slot{})
}

// TestNew: P1101, each of the three numbers by itself.
func TestNew(t *testing.T) {
	wrong := []int{math.MinInt, math.MinInt + 1, math.MinInt32, -64, -1, 0, 65, 66, 257, 1 << 32, 1<<32 + 1, math.MaxInt - 1, math.MaxInt}
	for at := range 3 {
		for _, n := range wrong {
			for _, rest := range []int{1, 2, 64, n} {
				l := [3]int{rest, rest, rest}
				l[at] = n
				if x, e := hier.New(l[0], l[1], l[2]); x != nil || e != api.ErrCap {
					t.Errorf("New%v = %v, %d", l, x, e)
				}
			}
		}
		for n := 1; n <= 64; n++ {
			l := [3]int{2, 2, 2}
			l[at] = n
			p := newTrio(t, l[0], l[1], l[2])
			for i, which := range whiches {
				if got := p.x.Places(which); len(got) != l[i] || slices.ContainsFunc(got, func(s api.Slot) bool { return s != api.Slot{} }) {
					t.Errorf("New%v: Places(%d) = %+v", l, which, got)
				}
			}
		}
	}
	newTrio(t, 64, 64, 64)
	newTrio(t, 1, 1, 1)
	newTrio(t, 3, 64, 1)
}

// TestFindInEmptyOnes: none, and nothing is put anywhere; the same where all was dropped again.
func TestFindInEmptyOnes(t *testing.T) {
	for _, places := range []int{1, 2, 64} {
		p := newTrio(t, places, places, places)
		for range 2 {
			for _, va := range []uint32{0, 1, page - 1, page, 1 << 31, last} {
				for _, asid := range append([]int{0, 3, 255}, noAsids...) {
					for _, fetch := range bools {
						for _, pick := range []int{0, 1, -1, math.MaxInt, math.MinInt} {
							p.find(va, asid, fetch, pick, false)
							p.find(va, asid, fetch, pick, true)
						}
					}
				}
			}
			for _, which := range whiches {
				if got := p.x.Places(which); len(got) != places || got[0].Full {
					t.Errorf("Places(%d) = %+v", which, got)
				}
			}
			p.keep(pageOf(0, 0), 0, 0, true, 0)
			p.keep(pageOf(0, api.AnyAsid), 0, 1, false, 0)
			p.drop(api.Tlbi{Kind: api.TlbiAll})
		}
	}
}

// probe: an address that all of nest lie over, of the ASID 3.
const probe = 5*page + 12

// nest: blocks of each size, one over the other, the first one global.
func nest() []api.Block {
	return []api.Block{pageOf(5, api.AnyAsid), blockAt(api.Large, 0, 3), blockAt(api.Section, 0, 3), blockAt(api.Super, 0, 3)}
}

// alone: for each block of nest, an address which no block ahead of it lies over.
func alone() []uint32 { return []uint32{5 * page, 0x2000, 0x20000, 0x200000} }

// nested: the blocks of nest stand in each TLB as the bits of its number say; ahead of them, behind an empty place, one of another ASID.
func nested(t *testing.T, sets [4]int) *trio {
	t.Helper()
	p := newTrio(t, 6, 7, 8)
	for _, fetch := range bools {
		p.keep(pageOf(5, 8), probe, 8, fetch, 0)
		p.keep(blockAt(api.Section, 0, 9), probe, 9, fetch, 0)
		for i, b := range nest() {
			p.keep(b, alone()[i], 3, fetch, 0)
		}
	}
	for _, which := range whiches {
		p.take(which, pageOf(5, 8))
		for i, b := range nest() {
			if sets[which]>>i&1 == 0 {
				p.take(which, b)
			}
		}
	}
	return p
}

// matches: which of nest the bits say: how many, and the one, if it is one.
func matches(set int) (api.Block, int) {
	var one api.Block
	n := 0
	for i, b := range nest() {
		if set>>i&1 == 1 {
			one = b
			n++
		}
	}
	if n != 1 {
		return api.Block{}, n
	}
	return one, 1
}

// TestFindOfEveryMatch: none, one, two, three and four matches in the small one and in the main one, each of the blocks in each; the other small one, whatever it has, is not asked and not changed.
func TestFindOfEveryMatch(t *testing.T) {
	for small := range 16 {
		for main := range 16 {
			for _, other := range []int{0, 1, 15} {
				for _, mainFirst := range bools {
					findNested(t, [4]int{0, small, other, main}, true, mainFirst)
					findNested(t, [4]int{0, other, small, main}, false, mainFirst)
				}
			}
		}
	}
}

// findNested: one Find of the probe, by how many match in the two that are asked.
func findNested(t *testing.T, sets [4]int, fetch, mainFirst bool) {
	t.Helper()
	which := api.TlbD
	if fetch {
		which = api.TlbI
	}
	p := nested(t, sets)
	inSmall, nSmall := matches(sets[which])
	inMain, nMain := matches(sets[api.TlbMain])
	first, second := inSmall, inMain
	nFirst, nSecond := nSmall, nMain
	if mainFirst {
		first, second = second, first
		nFirst, nSecond = nSecond, nFirst
	}
	want, count := first, nFirst
	if nFirst == 0 {
		want, count = second, nSecond
	}
	b, n := p.find(probe, 3, fetch, 0, mainFirst)
	if b != want || n != min(count, 2) {
		t.Fatalf("%v, %v, %v: %+v, %d, want %+v, %d", sets, fetch, mainFirst, b, n, want, count)
	}
	empty := api.Slot{}
	if nSmall == 0 && nMain == 1 {
		empty = full(inMain) // the lowest place was empty
	}
	for _, w := range whiches {
		place := p.x.Places(w)[0]
		if w == which && place != empty || w != which && place != (api.Slot{}) {
			t.Fatalf("%v, %v, %v: in the TLB %d: %+v", sets, fetch, mainFirst, w, place)
		}
	}
	if b2, n2 := p.find(probe, 3, fetch, 0, mainFirst); b2 != b || n2 != n {
		t.Fatalf("%v, %v, %v: once more: %+v, %d", sets, fetch, mainFirst, b2, n2)
	}
}

// TestFindOfOneBesideTwo: the main one has one match, the small one two: who asks the main one first has the block, who does not has two.
func TestFindOfOneBesideTwo(t *testing.T) {
	l := nest()
	p := nested(t, [4]int{0, 3, 12, 4})
	p.finds(probe, 3, true, true, l[2], 1)
	p.finds(probe, 3, true, false, api.Block{}, 2)
	p.finds(probe, 3, false, true, l[2], 1)
	p.finds(probe, 3, false, false, api.Block{}, 2)
	p.state()
}

// TestFindOfUnlikeBlocks: the small one and the main one have another block each: the one that is asked first answers, and none is put.
func TestFindOfUnlikeBlocks(t *testing.T) {
	l := nest()
	p := nested(t, [4]int{0, 2, 4, 8})
	p.finds(probe, 3, true, false, l[1], 1)
	p.finds(probe, 3, false, false, l[2], 1)
	p.finds(probe, 3, true, true, l[3], 1)
	p.finds(probe, 3, false, true, l[3], 1)
	p.state()
}

// picks: by the place that each of them gives up in a TLB of 3.
var picks = map[int]int{
	0: 0, 1: 1, 2: 2, 3: 0, 4: 1, 5: 2, 64: 1, 1 << 32: 1,
	-1: 2, -2: 1, -3: 0, -4: 2,
	math.MaxInt: 1, math.MaxInt - 1: 0, math.MinInt: 1, math.MinInt + 1: 2,
}

// crowded: I and D are full, of 3 places, with pages of the ASID 9; the main one, of 5, has the page 40 of the ASID 3 alone.
func crowded(t *testing.T) *trio {
	t.Helper()
	p := newTrio(t, 3, 3, 5)
	p.keep(pageOf(40, 3), 40*page, 3, true, 0)
	p.take(api.TlbI, pageOf(40, 3))
	for i := range 3 {
		for _, fetch := range bools {
			p.keep(pageOf(i, 9), uint32(i)*page, 9, fetch, 0)
		}
		p.take(api.TlbMain, pageOf(i, 9))
	}
	return p
}

// TestFindIntoAFullOne: pick says which place the small one gives up.
func TestFindIntoAFullOne(t *testing.T) {
	for pick, place := range picks {
		for _, fetch := range bools {
			for _, mainFirst := range bools {
				p := crowded(t)
				want := []api.Slot{full(pageOf(0, 9)), full(pageOf(1, 9)), full(pageOf(2, 9))}
				other := slices.Clone(want)
				want[place] = full(pageOf(40, 3))
				if b, n := p.find(40*page+7, 3, fetch, pick, mainFirst); b != pageOf(40, 3) || n != 1 {
					t.Errorf("%+v, %d", b, n)
				}
				if fetch {
					p.stands(api.TlbI, want...)
					p.stands(api.TlbD, other...)
				} else {
					p.stands(api.TlbD, want...)
					p.stands(api.TlbI, other...)
				}
				p.stands(api.TlbMain, full(pageOf(40, 3)), api.Slot{}, api.Slot{}, api.Slot{}, api.Slot{})
				p.find(40*page, 3, fetch, pick+1, mainFirst) // it is there, so nothing more is given up
			}
		}
	}
}

// TestFindGivesNothingUp: where nothing is put a pick changes nothing.
func TestFindGivesNothingUp(t *testing.T) {
	for pick := range picks {
		for _, fetch := range bools {
			for _, mainFirst := range bools {
				p := crowded(t)
				p.find(41*page, 3, fetch, pick, mainFirst)
				p.find(40*page, 4, fetch, pick, mainFirst)
				p.find(page, 9, fetch, pick, mainFirst)
				for i := range 3 {
					if got := p.x.Places(api.TlbI)[i]; got != full(pageOf(i, 9)) {
						t.Errorf("I: %+v", got)
					}
					if got := p.x.Places(api.TlbD)[i]; got != full(pageOf(i, 9)) {
						t.Errorf("D: %+v", got)
					}
				}
			}
		}
	}
}

// TestFindOfAsids: each ASID finds its own block; what is no ASID finds global ones alone.
func TestFindOfAsids(t *testing.T) {
	for _, own := range []int{0, 1, 3, 127, 128, 254, 255} {
		for _, fetch := range bools {
			for _, mainFirst := range bools {
				p := newTrio(t, 2, 2, 2)
				b, g := pageOf(4, own), pageOf(5, api.AnyAsid)
				p.keep(b, 4*page, own, false, 0)
				for asid := -257; asid < 514; asid++ {
					want, count := api.Block{}, 0
					if asid == own {
						want, count = b, 1
					}
					p.finds(4*page, asid, fetch, mainFirst, want, count)
				}
				for _, asid := range append([]int{own + 256, own - 256, own + 1<<32, own + math.MinInt}, noAsids...) {
					p.finds(4*page, asid, fetch, mainFirst, api.Block{}, 0)
				}
				p.keep(g, 5*page, 0, false, 0)
				for _, asid := range append([]int{0, own, 255}, noAsids...) {
					p.finds(5*page+1, asid, fetch, mainFirst, g, 1)
					p.finds(6*page, asid, fetch, mainFirst, api.Block{}, 0)
				}
			}
		}
	}
}

// TestEndsOfBlocks: the first and the last byte of a block, and those beside them, to Find and to Keep.
func TestEndsOfBlocks(t *testing.T) {
	for size, bytes := range sizes {
		for _, first := range []uint64{0, bytes, 1 << 31, 1<<32 - 2*bytes, 1<<32 - bytes} {
			for _, asid := range []int{3, api.AnyAsid} {
				b := blockAt(size, uint32(first), asid)
				for _, at := range []uint64{first, first + 1, first + bytes/2, first + bytes - 1} {
					lies(t, b, uint32(at), true)
				}
				// Those beyond an end of the addresses come round to the other.
				for _, at := range []uint64{first - 1, first - page, first - bytes, first + bytes, first + bytes + page} {
					lies(t, b, uint32(at), false)
				}
			}
		}
	}
}

// lies: whether the block lies over va, as Find and Keep tell it.
func lies(t *testing.T, b api.Block, va uint32, want bool) {
	t.Helper()
	err := api.ErrEntry
	if want {
		err = api.OK
	}
	for _, fetch := range bools {
		for _, mainFirst := range bools {
			p := newTrio(t, 1, 1, 1)
			if e := p.keep(b, va, 3, fetch, 0); e != err {
				t.Fatalf("Keep(%+v, %#x) = %d", b, va, e)
			}
			p.drop(api.Tlbi{Kind: api.TlbiAll})
			p.keep(b, b.Trans.VA, 3, !fetch, 0)
			if _, n := p.find(va, 3, fetch, 0, mainFirst); n != ones(want) {
				t.Fatalf("Find(%#x) of %+v: %d", va, b, n)
			}
		}
	}
}

// wrongs: blocks that are not right by one field of the page 16 of the ASID 3, or of AnyAsid.
func wrongs() []api.Block {
	var l []api.Block
	for _, asid := range []int{3, api.AnyAsid} {
		wrong := func(change func(*api.Block)) {
			b := pageOf(16, asid)
			change(&b)
			l = append(l, b)
		}
		for _, n := range []int{math.MinInt, -1, 0, 5, 1<<32 + api.Small, math.MaxInt} {
			wrong(func(b *api.Block) { b.Trans.Size = n })
		}
		for _, n := range []int{math.MinInt, -1, 16, math.MaxInt} {
			wrong(func(b *api.Block) { b.Trans.Domain = n })
		}
		for _, n := range []int{math.MinInt, -1, 8, math.MaxInt} {
			wrong(func(b *api.Block) { b.Trans.Leaf.AP = n })
		}
		for _, n := range []uint32{64, 1 << 31, last} {
			wrong(func(b *api.Block) { b.Trans.Leaf.Bits = n })
		}
		for _, pa := range []uint64{1, 0x800, 1 << 32, 1<<32 + page, 1 << 63} {
			wrong(func(b *api.Block) { b.Trans.PA = pa })
		}
		wrong(func(b *api.Block) { b.Trans.VA-- })
		wrong(func(b *api.Block) { b.Trans.VA -= 0x800 })
		wrong(func(b *api.Block) { b.Trans.Leaf.NG = !b.Trans.Leaf.NG })
	}
	for _, n := range noAsids {
		b := pageOf(16, 3)
		b.Asid = n
		l = append(l, b)
	}
	for _, n := range []int{math.MinInt, -2, 0, 3, 255, 256, math.MaxInt} {
		b := pageOf(16, api.AnyAsid)
		b.Asid = n
		l = append(l, b)
	}
	return append(l, api.Block{}, api.Block{Asid: api.AnyAsid})
}

// TestKeepOfWhatIsNotRight: P1103: ErrEntry, and nothing has changed, in empty TLBs and in full ones.
func TestKeepOfWhatIsNotRight(t *testing.T) {
	for _, b := range wrongs() {
		for _, fetch := range bools {
			for _, p := range []*trio{newTrio(t, 2, 2, 2), crowded(t)} {
				for _, asid := range []int{3, 0, b.Asid, api.AnyAsid} {
					for _, va := range []uint32{16 * page, b.Trans.VA, 0} {
						if e := p.keep(b, va, asid, fetch, 1); e != api.ErrEntry {
							t.Fatalf("Keep(%+v, %#x, %d) = %d", b, va, asid, e)
						}
					}
				}
			}
		}
	}
}

// TestKeepOfWhatDoesNotMatch: a right block at another address, or of another ASID.
func TestKeepOfWhatDoesNotMatch(t *testing.T) {
	for _, fetch := range bools {
		p := newTrio(t, 2, 2, 2)
		b, g := pageOf(16, 3), pageOf(17, api.AnyAsid)
		for _, va := range []uint32{0, 15 * page, 16*page - 1, 17 * page, 1 << 31, last} {
			if e := p.keep(b, va, 3, fetch, 0); e != api.ErrEntry {
				t.Errorf("Keep at %#x = %d", va, e)
			}
		}
		for _, va := range []uint32{0, 17*page - 1, 18 * page, last} {
			if e := p.keep(g, va, 3, fetch, 0); e != api.ErrEntry {
				t.Errorf("Keep at %#x = %d", va, e)
			}
		}
		for _, asid := range append([]int{0, 2, 4, 255}, noAsids...) {
			if e := p.keep(b, 16*page, asid, fetch, 0); e != api.ErrEntry {
				t.Errorf("Keep of %d = %d", asid, e)
			}
		}
		p.stands(api.TlbMain, api.Slot{}, api.Slot{})
		p.stands(api.TlbI, api.Slot{}, api.Slot{})
		p.stands(api.TlbD, api.Slot{}, api.Slot{})
	}
}

// TestKeepOfAGlobalOne: for every ASID, what is none too.
func TestKeepOfAGlobalOne(t *testing.T) {
	for _, asid := range append([]int{0, 3, 255}, noAsids...) {
		for _, fetch := range bools {
			p := newTrio(t, 1, 1, 1)
			g := pageOf(17, api.AnyAsid)
			if e := p.keep(g, 17*page+9, asid, fetch, 0); e != api.OK {
				t.Errorf("Keep of %d = %d", asid, e)
			}
			p.stands(api.TlbMain, full(g))
			if fetch {
				p.stands(api.TlbI, full(g))
				p.stands(api.TlbD, api.Slot{})
			} else {
				p.stands(api.TlbD, full(g))
				p.stands(api.TlbI, api.Slot{})
			}
			p.finds(17*page, 200, !fetch, false, g, 1)
		}
	}
}

// TestKeepBesideMatches: a TLB that has a match for va and asid, the same block or another, one or more, is left as it is; the other takes the block.
func TestKeepBesideMatches(t *testing.T) {
	for small := range 16 {
		for main := range 16 {
			for other := range 2 {
				for _, b := range []api.Block{pageOf(5, 3), nest()[1]} {
					keepNested(t, [4]int{0, small, 15 * other, main}, b, true)
					keepNested(t, [4]int{0, 15 * other, small, main}, b, false)
				}
			}
		}
	}
}

// keepNested: b is kept for the probe; the lowest place of each TLB is empty ahead of it.
func keepNested(t *testing.T, sets [4]int, b api.Block, fetch bool) {
	t.Helper()
	p := nested(t, sets)
	if e := p.keep(b, probe, 3, fetch, 0); e != api.OK {
		t.Fatalf("Keep = %d", e)
	}
	for _, which := range whiches {
		asked := which == api.TlbMain || fetch == (which == api.TlbI)
		want := api.Slot{}
		if asked && sets[which] == 0 {
			want = full(b)
		}
		if got := p.x.Places(which)[0]; got != want {
			t.Fatalf("%v, %v: in the TLB %d %+v, want %+v", sets, fetch, which, got, want)
		}
	}
}

// TestKeepAsksForAsid: a match of another ASID at the same address is none.
func TestKeepAsksForAsid(t *testing.T) {
	p := newTrio(t, 3, 3, 3)
	a, b, g := pageOf(4, 3), pageOf(4, 4), pageOf(4, api.AnyAsid)
	p.keep(a, 4*page, 3, true, 0)
	p.keep(b, 4*page, 4, true, 0)
	p.keep(g, 4*page, 3, true, 0) // the block of 3 matches
	p.stands(api.TlbMain, full(a), full(b), api.Slot{})
	p.stands(api.TlbI, full(a), full(b), api.Slot{})
	p.keep(g, 4*page, 5, true, 0)
	p.stands(api.TlbMain, full(a), full(b), full(g))
	p.stands(api.TlbI, full(a), full(b), full(g))
	p.finds(4*page, 3, true, false, api.Block{}, 2)
	p.finds(4*page, 5, true, false, g, 1)
	p.keep(pageOf(4, 6), 4*page, 6, false, 0) // the main one has the global one, D nothing
	p.stands(api.TlbMain, full(a), full(b), full(g))
	p.stands(api.TlbD, full(pageOf(4, 6)), api.Slot{}, api.Slot{})
}

// TestKeepIntoFullOnes: pick says which place is given up, of the main one and of the small one.
func TestKeepIntoFullOnes(t *testing.T) {
	for pick, place := range picks {
		for _, fetch := range bools {
			p := newTrio(t, 3, 3, 3)
			for i := range 3 {
				p.keep(pageOf(i, 9), uint32(i)*page, 9, true, 0)
				p.keep(pageOf(i, 9), uint32(i)*page, 9, false, 0)
			}
			old := p.x.Places(api.TlbMain)
			want := slices.Clone(old)
			want[place] = full(pageOf(40, 3))
			p.keep(pageOf(40, 3), 40*page, 3, fetch, pick)
			p.stands(api.TlbMain, want...)
			if fetch {
				p.stands(api.TlbI, want...)
				p.stands(api.TlbD, old...)
			} else {
				p.stands(api.TlbD, want...)
				p.stands(api.TlbI, old...)
			}
			p.keep(pageOf(40, 3), 40*page, 3, fetch, pick+1)
			p.stands(api.TlbMain, want...)
		}
	}
	// Three numbers of places: one pick is three places.
	p := newTrio(t, 2, 3, 5)
	for i := range 5 {
		p.keep(pageOf(i, 9), uint32(i)*page, 9, true, i)
		p.keep(pageOf(i, 9), uint32(i)*page, 9, false, i)
	}
	b := pageOf(40, 3)
	p.keep(b, 40*page, 3, true, 13)
	p.keep(b, 40*page, 3, false, 13)
	if p.x.Places(api.TlbI)[1] != full(b) || p.x.Places(api.TlbD)[1] != full(b) || p.x.Places(api.TlbMain)[3] != full(b) {
		t.Error("the rest by the number of places")
	}
}

// TestEvict: P1104.
func TestEvict(t *testing.T) {
	p := newTrio(t, 2, 3, 4)
	for _, which := range whiches {
		for place := range len(p.rows[which]) {
			if p.evict(which, place) {
				t.Errorf("%d of %d was empty", place, which)
			}
		}
	}
	for i := range 4 {
		p.keep(pageOf(i, 9), uint32(i)*page, 9, true, 0)
		p.keep(pageOf(i, 9), uint32(i)*page, 9, false, 0)
	}
	for _, which := range append(slices.Clone(noTlbs), whiches...) {
		for _, place := range []int{math.MinInt, math.MinInt + 1, -4, -2, -1, 4, 5, 64, 1 << 32, 1<<32 + 1, math.MaxInt - 1, math.MaxInt} {
			if p.evict(which, place) {
				t.Errorf("Evict(%d, %d)", which, place)
			}
		}
	}
	for _, which := range noTlbs {
		for place := range 4 {
			if p.evict(which, place) {
				t.Errorf("Evict(%d, %d)", which, place)
			}
		}
	}
	if p.evict(api.TlbI, 2) || p.evict(api.TlbI, 3) || p.evict(api.TlbD, 3) {
		t.Error("beyond the last place of a small one")
	}
	for _, which := range whiches {
		for place := len(p.rows[which]) - 1; place >= 0; place-- {
			if !p.evict(which, place) || p.evict(which, place) {
				t.Errorf("Evict(%d, %d)", which, place)
			}
		}
	}
	p.finds(0, 9, true, false, api.Block{}, 0)
}

// TestEvictedIsFilledAgain: a small one from the main one, not the other way round.
func TestEvictedIsFilledAgain(t *testing.T) {
	b := pageOf(1, 3)
	for _, mainFirst := range bools {
		p := newTrio(t, 1, 1, 1)
		p.keep(b, page, 3, false, 0)
		p.evict(api.TlbD, 0)
		p.find(page, 3, false, 0, mainFirst)
		p.stands(api.TlbD, full(b))
		p.evict(api.TlbMain, 0)
		p.finds(page, 3, false, mainFirst, b, 1)
		p.finds(page, 3, true, mainFirst, api.Block{}, 0)
		p.stands(api.TlbMain, api.Slot{})
		p.stands(api.TlbI, api.Slot{})
		p.keep(b, page, 3, false, 0)
		p.stands(api.TlbMain, full(b))
		p.stands(api.TlbD, full(b))
	}
}

// mixed: blocks of four ASIDs and global ones; each in the main one, and in I, in D, or in both. An empty place stands behind those of D and of the main one.
func mixed(t *testing.T) *trio {
	t.Helper()
	p := newTrio(t, 4, 7, 8)
	keep := func(b api.Block, va uint32, asid int, fetches ...bool) {
		for _, fetch := range fetches {
			p.keep(b, va, asid, fetch, 0)
		}
	}
	keep(pageOf(0x410, 3), 0x410000, 3, true, false)                            // I 0, D 0, Main 0
	keep(pageOf(0x410, 4), 0x410000, 4, false)                                  // D 1, Main 1
	keep(blockAt(api.Large, 0x410000, 3), 0x411000, 3, true)                    // I 1, Main 2
	keep(blockAt(api.Section, 0x400000, api.AnyAsid), 0x400000, 4, true, false) // I 2, D 2, Main 3
	keep(blockAt(api.Super, 0xff00_0000, 255), last, 255, true, false)          // I 3, D 3, Main 4
	keep(blockAt(api.Large, 0xff00_0000, api.AnyAsid), 0xff00_0000, 3, false)   // D 4, Main 5
	keep(blockAt(api.Super, 0x0100_0000, 0), 0x01ab_cdef, 0, false)             // D 5, Main 6
	return p
}

// TestDrop: P1105, of each kind: which places of I, D and the main one are empty behind it.
func TestDrop(t *testing.T) {
	for _, c := range []struct {
		d    api.Tlbi
		gone [4][]int
	}{
		{api.Tlbi{Kind: api.TlbiAll}, [4][]int{nil, {0, 1, 2, 3}, {0, 1, 2, 3, 4, 5}, {0, 1, 2, 3, 4, 5, 6}}},
		{api.Tlbi{Kind: api.TlbiMva, Va: 0x410abc, Asid: 3}, [4][]int{nil, {0, 1, 2}, {0, 2}, {0, 2, 3}}},
		{api.Tlbi{Kind: api.TlbiMva, Va: 0x410000, Asid: 4}, [4][]int{nil, {2}, {1, 2}, {1, 3}}},
		{api.Tlbi{Kind: api.TlbiMva, Va: 0x41ffff, Asid: 3}, [4][]int{nil, {1, 2}, {2}, {2, 3}}},
		{api.Tlbi{Kind: api.TlbiMva, Va: 0x420000, Asid: 255}, [4][]int{nil, {2}, {2}, {3}}},
		{api.Tlbi{Kind: api.TlbiMva, Va: 0xff00_0000, Asid: 255}, [4][]int{nil, {3}, {3, 4}, {4, 5}}},
		{api.Tlbi{Kind: api.TlbiMva, Va: last, Asid: 255}, [4][]int{nil, {3}, {3}, {4}}},
		{api.Tlbi{Kind: api.TlbiMva, Va: 0x01ff_ffff, Asid: 0}, [4][]int{nil, nil, {5}, {6}}},
		{api.Tlbi{Kind: api.TlbiMva, Va: 0x0200_0000, Asid: 0}, [4][]int{}},
		{api.Tlbi{Kind: api.TlbiAsid, Asid: 3}, [4][]int{nil, {0, 1}, {0}, {0, 2}}},
		{api.Tlbi{Kind: api.TlbiAsid, Asid: 4}, [4][]int{nil, nil, {1}, {1}}},
		{api.Tlbi{Kind: api.TlbiAsid, Asid: 255}, [4][]int{nil, {3}, {3}, {4}}},
		{api.Tlbi{Kind: api.TlbiAsid}, [4][]int{nil, nil, {5}, {6}}},
		{api.Tlbi{Kind: api.TlbiAsid, Asid: 1}, [4][]int{}},
		{api.Tlbi{Kind: api.TlbiMvaa, Va: 0x410fff}, [4][]int{nil, {0, 1, 2}, {0, 1, 2}, {0, 1, 2, 3}}},
		{api.Tlbi{Kind: api.TlbiMvaa, Va: 0xff00_0000}, [4][]int{nil, {3}, {3, 4}, {4, 5}}},
		{api.Tlbi{Kind: api.TlbiMvaa, Va: 0x0100_0000}, [4][]int{nil, nil, {5}, {6}}},
		{api.Tlbi{Kind: api.TlbiMvaa}, [4][]int{}},
	} {
		p := mixed(t)
		count := 0
		var want [4][]api.Slot
		for _, which := range whiches {
			want[which] = p.x.Places(which)
			for _, i := range c.gone[which] {
				if !want[which][i].Full {
					t.Errorf("%d of %d is empty", i, which)
				}
				want[which][i] = api.Slot{}
				count++
			}
		}
		if n := p.drop(c.d); n != count {
			t.Errorf("Drop(%+v) = %d, want %d", c.d, n, count)
		}
		for _, which := range whiches {
			p.stands(which, want[which]...)
		}
		if n := p.drop(c.d); n != 0 {
			t.Errorf("Drop(%+v) once more = %d", c.d, n)
		}
	}
}

// TestDropOfWhatIsNone: each by one field.
func TestDropOfWhatIsNone(t *testing.T) {
	var l []api.Tlbi
	for _, kind := range []int{math.MinInt, -1, 0, 5, 1<<32 + api.TlbiAll, math.MaxInt} {
		l = append(l, api.Tlbi{Kind: kind}, api.Tlbi{Kind: kind, Va: 0x410000, Asid: 3})
	}
	for _, va := range []uint32{1, page, 0x410000, last} {
		l = append(l, api.Tlbi{Kind: api.TlbiAll, Va: va}, api.Tlbi{Kind: api.TlbiAsid, Va: va, Asid: 3})
	}
	for _, asid := range append([]int{1, 3, 255}, noAsids...) {
		l = append(l, api.Tlbi{Kind: api.TlbiAll, Asid: asid}, api.Tlbi{Kind: api.TlbiMvaa, Va: 0x410000, Asid: asid})
	}
	for _, asid := range noAsids {
		l = append(l, api.Tlbi{Kind: api.TlbiMva, Va: 0x410000, Asid: asid}, api.Tlbi{Kind: api.TlbiAsid, Asid: asid})
	}
	p := mixed(t)
	for _, d := range l {
		if n := p.drop(d); n != 0 {
			t.Errorf("Drop(%+v) = %d", d, n)
		}
	}
	if n := p.drop(api.Tlbi{Kind: api.TlbiAll}); n != 17 {
		t.Errorf("Drop of all = %d", n)
	}
}

// TestPlacesOfNone: P1106, of a number that is no TLB.
func TestPlacesOfNone(t *testing.T) {
	for _, p := range []*trio{newTrio(t, 1, 1, 1), mixed(t)} {
		for _, which := range noTlbs {
			if got := p.x.Places(which); len(got) != 0 {
				t.Errorf("Places(%d) = %+v", which, got)
			}
		}
	}
}

// TestPlacesAreNew: rule 4: what was handed out is the caller's alone, its spare room too.
func TestPlacesAreNew(t *testing.T) {
	junk := full(pageOf(77, 77))
	for _, which := range whiches {
		p := mixed(t)
		p.evict(which, 1)
		got, again := p.x.Places(which), p.x.Places(which)
		kept := slices.Clone(again)
		got = got[:cap(got)]
		for i := range got {
			got[i] = junk
		}
		got = append(got, junk)
		p.state()
		p.finds(77*page, 77, which == api.TlbI, which == api.TlbMain, api.Block{}, 0)
		p.keep(pageOf(1, 1), page, 1, true, 0)
		p.keep(pageOf(2, 2), 2*page, 2, false, 3)
		p.find(page, 1, false, 2, false)
		p.evict(which, 2)
		p.drop(api.Tlbi{Kind: api.TlbiAsid, Asid: 255})
		if !slices.Equal(again, kept) {
			t.Errorf("%d: what was handed out has changed", which)
		}
		for _, s := range got {
			if s != junk {
				t.Errorf("%d: what was handed out has changed", which)
			}
		}
	}
}

// TestTwoShareNothing: rule 5.
func TestTwoShareNothing(t *testing.T) {
	one, two := newTrio(t, 2, 2, 2), newTrio(t, 2, 2, 2)
	one.keep(pageOf(1, 3), page, 3, true, 0)
	one.keep(pageOf(1, 3), page, 3, false, 0)
	two.state()
	two.find(page, 3, true, 0, false)
	two.keep(pageOf(2, 3), 2*page, 3, true, 0)
	one.drop(api.Tlbi{Kind: api.TlbiAll})
	two.state()
	two.evict(api.TlbMain, 0)
	one.state()
}

// someAsid: of few, so that blocks meet; now and then one that is none.
func someAsid(r *rand.Rand) int {
	if r.Intn(10) == 0 {
		return noAsids[r.Intn(len(noAsids))]
	}
	return []int{0, 3, 255}[r.Intn(3)]
}

// someVA: in the first or the last few pages, mostly.
func someVA(r *rand.Rand) uint32 {
	va := uint32(r.Intn(1 << 14))
	switch r.Intn(6) {
	case 0:
		va = uint32(r.Intn(1 << 25))
	case 1:
		va = uint32(r.Intn(1 << 18))
	}
	if r.Intn(3) == 0 {
		return last - va
	}
	return va
}

// someBlock: mostly right, and mostly over that address and of that ASID, as a walk finds it.
func someBlock(r *rand.Rand, va uint32, asid int) api.Block {
	size := 1 + r.Intn(4)
	if r.Intn(20) == 0 {
		va = someVA(r)
	}
	if r.Intn(20) == 0 {
		asid = someAsid(r)
	}
	if r.Intn(4) == 0 {
		asid = api.AnyAsid
	}
	b := blockAt(size, va&-uint32(sizes[size]), asid)
	b.Trans.PA += uint64(r.Intn(2)) * sizes[size]
	switch r.Intn(40) {
	case 0:
		b.Trans.Leaf.NG = !b.Trans.Leaf.NG
	case 1:
		b.Trans.VA ^= 1 << r.Intn(32)
	case 2:
		b.Trans.PA ^= 1 << r.Intn(64)
	case 3:
		b.Trans.Size = r.Intn(7) - 1
	}
	return b
}

func someTlbi(r *rand.Rand) api.Tlbi {
	d := api.Tlbi{Kind: 2 + r.Intn(3)}
	if d.Kind != api.TlbiAsid || r.Intn(20) == 0 {
		d.Va = someVA(r)
	}
	if d.Kind != api.TlbiMvaa || r.Intn(20) == 0 {
		d.Asid = someAsid(r)
	}
	if r.Intn(12) == 0 {
		d = api.Tlbi{Kind: r.Intn(9) - 2}
	}
	return d
}

func somePick(r *rand.Rand) int {
	return []int{r.Intn(8), -r.Intn(80), r.Intn(200), math.MaxInt - r.Intn(70), math.MinInt + r.Intn(70)}[r.Intn(5)]
}

// tally: how often each thing was seen, so that the random calls leave none out.
type tally struct {
	none, one, two, kept, notKept, evicted, notEvicted, dropped, notDropped int
}

// TestAnyCalls: P1107 among all the others, over any calls.
func TestAnyCalls(t *testing.T) {
	var seen tally
	places := [][3]int{{1, 1, 1}, {1, 1, 2}, {2, 1, 4}, {2, 3, 8}, {5, 4, 3}, {8, 8, 16}, {64, 64, 64}}
	for seed := range int64(70) {
		r := rand.New(rand.NewSource(seed))
		n := places[seed%7]
		p := newTrio(t, n[0], n[1], n[2])
		for range 600 {
			anyCall(r, p, &seen)
		}
	}
	if min(seen.none, seen.one, seen.two, seen.kept, seen.notKept, seen.evicted, seen.notEvicted, seen.dropped, seen.notDropped) < 200 {
		t.Errorf("%+v", seen)
	}
}

func anyCall(r *rand.Rand, p *trio, seen *tally) {
	va, asid, fetch := someVA(r), someAsid(r), r.Intn(2) == 0
	switch r.Intn(12) {
	case 0:
		had := p.evict(r.Intn(6)-1, r.Intn(6)-1)
		seen.evicted += ones(had)
		seen.notEvicted += ones(!had)
	case 1:
		n := p.drop(someTlbi(r))
		seen.dropped += ones(n > 0)
		seen.notDropped += ones(n == 0)
	case 2, 3, 4, 5, 6:
		e := p.keep(someBlock(r, va, asid), va, asid, fetch, somePick(r))
		seen.kept += ones(e == api.OK)
		seen.notKept += ones(e == api.ErrEntry)
	default:
		_, n := p.find(va, asid, fetch, somePick(r), r.Intn(2) == 0)
		seen.none += ones(n == 0)
		seen.one += ones(n == 1)
		seen.two += ones(n == 2)
	}
}
