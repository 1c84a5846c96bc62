package walk_test

import (
	"fmt"
	"iter"
	"maps"
	"math"
	"math/rand"
	"slices"
	"testing"

	"atlas/api"
	"atlas/desc"
	"atlas/rights"
	"atlas/walk"
)

const (
	page = 1 << 12
	mib  = 1 << 20
	last = math.MaxUint32
)

var none = api.Fault{}

// memory: words by their addresses; all others that lie below size are 0, beyond it there is nothing, and nothing where bad tells an error. It keeps what it was asked for.
type memory struct {
	words map[uint64]uint32
	size  uint64
	bad   map[uint64]api.Errno
	junk  uint32 // what stands beside an error
	asked []uint64
}

func (m *memory) Word(pa uint64) (uint32, api.Errno) {
	m.asked = append(m.asked, pa)
	if e, ok := m.bad[pa]; ok {
		return m.junk, e
	}
	if pa >= m.size {
		return m.junk, api.ErrBus
	}
	return m.words[pa], api.OK
}

// newMemory: with these words, and no end.
func newMemory(words map[uint64]uint32) *memory {
	return &memory{words: words, size: math.MaxUint64, bad: map[uint64]api.Errno{}}
}

// example: the memory of the chapter's examples.
func example() *memory {
	m := newMemory(map[uint64]uint32{0x4000: 0x00005021, 0x4004: 0x00100c0e, 0x5004: 0x0000783e})
	m.size = 0x10000
	return m
}

var exampleContext = api.Context{On: true, N: 2, Base0: 0x4000, Base1: 0x20000, DACR: 5}

var (
	examplePage    = api.Trans{Size: api.Small, VA: 0x1000, PA: 0x7000, Domain: 1, Leaf: api.Leaf{AP: 3, Bits: 6, NG: true}}
	exampleSection = api.Trans{Size: api.Section, VA: 0x100000, PA: 0x100000, Leaf: api.Leaf{AP: 3, Bits: 6}}
)

// bits: those of w from lo to hi, as the document names them.
func bits(w uint32, hi, lo int) uint64 {
	n := uint64(0)
	for i := hi; i >= lo; i-- {
		n = 2*n + uint64(w)/(1<<i)%2
	}
	return n
}

// firstModel: what a first-level word says, by chapter 5's table: its kind, base, domain and leaf.
func firstModel(w uint32) api.Entry {
	leaf := api.Leaf{
		AP:   int(4*bits(w, 15, 15) + bits(w, 11, 10)),
		Bits: uint32(8*bits(w, 14, 12) + 4*bits(w, 3, 3) + 2*bits(w, 2, 2) + bits(w, 16, 16)),
		NG:   bits(w, 17, 17) == 1,
		XN:   bits(w, 4, 4) == 1,
	}
	switch {
	case bits(w, 1, 0) == 1:
		return api.Entry{Kind: api.DTable, Base: bits(w, 31, 10) * 1024, Domain: int(bits(w, 8, 5))}
	case bits(w, 1, 0) == 2 && bits(w, 18, 18) == 0:
		return api.Entry{Kind: api.DSection, Base: bits(w, 31, 20) * mib, Domain: int(bits(w, 8, 5)), Leaf: leaf}
	case bits(w, 1, 0) == 2:
		base := bits(w, 31, 24)*16*mib + bits(w, 23, 20)<<32 + bits(w, 8, 5)<<36
		return api.Entry{Kind: api.DSuper, Base: base, Leaf: leaf}
	}
	return api.Entry{}
}

// secondModel: what a second-level word says.
func secondModel(w uint32) api.Entry {
	leaf := api.Leaf{AP: int(4*bits(w, 9, 9) + bits(w, 5, 4)), NG: bits(w, 11, 11) == 1}
	low := uint32(4*bits(w, 3, 3) + 2*bits(w, 2, 2) + bits(w, 10, 10))
	switch bits(w, 1, 0) {
	case 0:
		return api.Entry{}
	case 1:
		leaf.Bits = uint32(8*bits(w, 14, 12)) + low
		leaf.XN = bits(w, 15, 15) == 1
		return api.Entry{Kind: api.DLarge, Base: bits(w, 31, 16) * 65536, Leaf: leaf}
	}
	leaf.Bits = uint32(8*bits(w, 8, 6)) + low
	leaf.XN = bits(w, 0, 0) == 1
	return api.Entry{Kind: api.DSmall, Base: bits(w, 31, 12) * page, Leaf: leaf}
}

// answer: of a walk, with what it asked for.
type answer struct {
	trans api.Trans
	fault api.Fault
	reads []uint64
}

// rootModel: the base and the switch of the table for an address.
func rootModel(c api.Context, va uint32) (uint64, bool) {
	n := ((c.N % 8) + 8) % 8
	highest := false
	for i := 32 - n; i < 32; i++ {
		highest = highest || va/(1<<i)%2 == 1
	}
	if highest {
		return c.Base1 - c.Base1%16384, c.PD1
	}
	size := uint64(16384)
	for range n {
		size /= 2
	}
	return c.Base0 - c.Base0%size, c.PD0
}

// model: the walk as the chapter tells it.
func model(m api.Words, c api.Context, va uint32) answer {
	if !c.On {
		return answer{trans: api.Trans{Size: api.Small, VA: va - va%page, PA: uint64(va - va%page), Leaf: api.Leaf{AP: 3}}}
	}
	root, shut := rootModel(c, va)
	if shut {
		return answer{fault: api.Fault{Kind: api.FTrans1}}
	}
	a := answer{reads: []uint64{root + 4*uint64(va/mib)}}
	w, ok := wordModel(m, a.reads[0])
	if !ok {
		a.fault = api.Fault{Kind: api.FWalk1}
		return a
	}
	e := firstModel(w)
	switch e.Kind {
	case api.DFault:
		a.fault = api.Fault{Kind: api.FTrans1}
	case api.DSection:
		a.trans = api.Trans{Size: api.Section, VA: va - va%mib, PA: e.Base, Domain: e.Domain, Leaf: e.Leaf}
	case api.DSuper:
		a.trans = api.Trans{Size: api.Super, VA: va - va%(16*mib), PA: e.Base, Leaf: e.Leaf}
	case api.DTable:
		return pageModel(m, a, e, va)
	}
	return a
}

// pageModel: the walk's second half.
func pageModel(m api.Words, a answer, table api.Entry, va uint32) answer {
	at := table.Base + 4*uint64(va%mib/page)
	a.reads = append(a.reads, at)
	w, ok := wordModel(m, at)
	if !ok {
		a.fault = api.Fault{Kind: api.FWalk2, Domain: table.Domain}
		return a
	}
	e := secondModel(w)
	switch e.Kind {
	case api.DFault:
		a.fault = api.Fault{Kind: api.FTrans2, Domain: table.Domain}
	case api.DLarge:
		a.trans = api.Trans{Size: api.Large, VA: va - va%65536, PA: e.Base, Domain: table.Domain, Leaf: e.Leaf}
	case api.DSmall:
		a.trans = api.Trans{Size: api.Small, VA: va - va%page, PA: e.Base, Domain: table.Domain, Leaf: e.Leaf}
	}
	return a
}

func wordModel(m api.Words, pa uint64) (uint32, bool) {
	if m == nil {
		return 0, false
	}
	w, e := m.Word(pa)
	return w, e == api.OK
}

// check: Walk and Reads of an address against the model; and that Walk asks for just what Reads tells.
func check(t *testing.T, m *memory, c api.Context, va uint32) answer {
	t.Helper()
	want := model(m, c, va)
	m.asked = nil
	b, f := walk.Walk(m, c, va)
	if b != want.trans || f != want.fault {
		t.Fatalf("Walk(%+v, %#x) = %+v %+v, want %+v %+v", c, va, b, f, want.trans, want.fault)
	}
	if !slices.Equal(m.asked, want.reads) {
		t.Fatalf("Walk(%+v, %#x) asks for %#x, want %#x", c, va, m.asked, want.reads)
	}
	if got := walk.Reads(m, c, va); !slices.Equal(got, want.reads) {
		t.Fatalf("Reads(%+v, %#x) = %#x, want %#x", c, va, got, want.reads)
	}
	return want
}

// wantWalk: Walk's two results as they are written out.
func wantWalk(t *testing.T, m api.Words, c api.Context, va uint32, b api.Trans, f api.Fault) {
	t.Helper()
	if gotB, gotF := walk.Walk(m, c, va); gotB != b || gotF != f {
		t.Errorf("Walk(%#x) = %+v %+v, want %+v %+v", va, gotB, gotF, b, f)
	}
}

func wantReads(t *testing.T, m api.Words, c api.Context, va uint32, want ...uint64) {
	t.Helper()
	if got := walk.Reads(m, c, va); !slices.Equal(got, want) {
		t.Errorf("Reads(%#x) = %#x, want %#x", va, got, want)
	}
}

func wantGo(t *testing.T, m api.Words, c api.Context, va uint32, priv bool, kind int, pa uint64, f api.Fault) {
	t.Helper()
	if gotPA, gotF := walk.Go(m, c, va, priv, kind); gotPA != pa || gotF != f {
		t.Errorf("Go(%#x, %v, %d) = %#x %+v, want %#x %+v", va, priv, kind, gotPA, gotF, pa, f)
	}
}

func wantBlocks(t *testing.T, m api.Words, c api.Context, want ...api.Trans) {
	t.Helper()
	if got := slices.Collect(walk.Blocks(m, c)); !slices.Equal(got, want) {
		t.Errorf("Blocks: %d, want %d: %s", len(got), len(want), unlike(got, want))
	}
}

// unlike: the first place at which two lists differ.
func unlike(got, want []api.Trans) string {
	for i := range min(len(got), len(want)) {
		if got[i] != want[i] {
			return fmt.Sprintf("at %d %+v, want %+v", i, got[i], want[i])
		}
	}
	longer := got
	if len(want) > len(got) {
		longer = want
	}
	return fmt.Sprintf("%+v", longer[min(len(got), len(want))])
}

func wantSame(t *testing.T, m api.Words, c api.Context, b api.Trans, want bool) {
	t.Helper()
	if got := walk.Same(m, c, b); got != want {
		t.Errorf("Same(%+v) = %v", b, got)
	}
}

func TestExamples(t *testing.T) {
	m, c := example(), exampleContext
	wantWalk(t, m, c, 0x1234, examplePage, none)
	wantReads(t, m, c, 0x1234, 0x4000, 0x5004)
	wantGo(t, m, c, 0x1234, false, api.Load, 0x7234, none)
	wantWalk(t, m, c, 0x2000, api.Trans{}, api.Fault{Kind: api.FTrans2, Domain: 1})
	wantWalk(t, m, c, 0x100000, exampleSection, none)
	wantWalk(t, m, c, 0x200000, api.Trans{}, api.Fault{Kind: api.FTrans1})
	wantWalk(t, m, c, 0x40000000, api.Trans{}, api.Fault{Kind: api.FWalk1})
	wantReads(t, m, c, 0x40000000, 0x21000)
	shut := c
	shut.PD1 = true
	wantWalk(t, m, shut, 0x40000000, api.Trans{}, api.Fault{Kind: api.FTrans1})
	wantReads(t, m, shut, 0x40000000)
	one := c
	one.N = 0
	wantWalk(t, m, one, 0x40000000, api.Trans{}, api.Fault{Kind: api.FTrans1})
	wantReads(t, m, one, 0x40000000, 0x5000)
	wantReads(t, m, one, 0x40100000, 0x5004)
	wantWalk(t, m, one, 0x40100000, api.Trans{Size: api.Section, VA: 0x40100000, Domain: 1, Leaf: api.Leaf{AP: 2, Bits: 62, XN: true}}, none)
	wantBlocks(t, m, c, examplePage, exampleSection)
	wantSame(t, m, c, examplePage, true)
	other := examplePage
	other.PA = 0x8000
	wantSame(t, m, c, other, false)
	off := c
	off.On = false
	wantSame(t, m, off, examplePage, false)
	wantGo(t, m, off, 0x1234, false, api.Load, 0x1234, none)
}

// wildKinds: of an access, and such as are none.
var wildKinds = []int{math.MinInt, -1, 0, api.Fetch, api.Load, api.Store, 4, 1<<32 + api.Load, math.MaxInt}

var bools = []bool{false, true}

// edges: addresses at which parts of the addresses begin and end.
func edges() []uint32 {
	l := []uint32{0, 1, 0xfff, 0x1000, 0x1234, 0xffff, 0x10000, 0xfffff, 0x100000, 0xffffff, 0x1000000, last, last - 0xfff, last - 0x1000, 0x12345678}
	for i := 25; i < 32; i++ {
		border := uint32(1) << i
		l = append(l, border-1, border-page, border, border+1, border+mib, border|0xfff)
	}
	return l
}

func TestNotOn(t *testing.T) {
	m := example()
	full := api.Context{TRE: true, AFE: true, N: 7, PD0: true, PD1: true, Base0: 0x4000, Base1: 0x4000, PRRR: last, NMRR: last, Asid: 3}
	for _, c := range []api.Context{{}, full, {Base0: 0x4000, N: -1, Asid: -5}, {DACR: last}} {
		for _, va := range edges() {
			start := va &^ 0xfff
			flat := api.Trans{Size: api.Small, VA: start, PA: uint64(start), Leaf: api.Leaf{AP: 3}}
			for _, w := range []api.Words{m, nil} {
				m.asked = nil
				wantWalk(t, w, c, va, flat, none)
				wantReads(t, w, c, va)
				wantSame(t, w, c, flat, false)
				for _, kind := range wildKinds {
					wantGo(t, w, c, va, false, kind, uint64(va), none)
					wantGo(t, w, c, va, true, kind, uint64(va), none)
				}
				wantBlocks(t, w, c)
				if m.asked != nil {
					t.Fatalf("asked for %#x", m.asked)
				}
			}
		}
		wantSame(t, m, c, examplePage, false)
		wantSame(t, m, c, exampleSection, false)
	}
}

// splits: the N that counts, by the N that comes in.
var splits = map[int]int{
	0: 0, 1: 1, 2: 2, 3: 3, 4: 4, 5: 5, 6: 6, 7: 7,
	8: 0, 9: 1, 15: 7, 16: 0, 26: 2, 1 << 32: 0, 1<<32 + 3: 3, math.MaxInt: 7, math.MaxInt - 2: 5,
	-1: 7, -2: 6, -5: 3, -7: 1, -8: 0, -9: 7, math.MinInt: 0, math.MinInt + 4: 4,
}

func TestTablesByN(t *testing.T) {
	const base0, base1 = 0x100000, 0x200000
	m := newMemory(map[uint64]uint32{})
	for in, n := range splits {
		c := api.Context{On: true, N: in, Base0: base0, Base1: base1}
		for _, va := range edges() {
			table := uint64(base0)
			if n > 0 && va >= 1<<(32-n) {
				table = base1
			}
			wantReads(t, m, c, va, table+4*uint64(va>>20))
			check(t, m, c, va)
		}
	}
}

func TestBasesAreCleared(t *testing.T) {
	m := newMemory(map[uint64]uint32{})
	for _, base := range []uint64{0, 0x3fff, 0x7fff, 0x12345678, 0xffffffff, 1<<32 + 0x3f80, 1<<40 - 1, 1<<63 + 0x1fff, math.MaxUint64, math.MaxUint64 - 0x7f, math.MaxUint64 - 0x4000} {
		for in, n := range splits {
			low := uint64(1)<<(14-n) - 1
			c := api.Context{On: true, N: in, Base0: base, Base1: ^base}
			wantReads(t, m, c, 0, base&^low)
			wantReads(t, m, c, uint32(1<<(32-n)-1), base&^low+low-3)
			if n > 0 {
				wantReads(t, m, c, last, ^base|0x3fff-3)
				wantReads(t, m, c, 1<<(32-n), ^base&^0x3fff+4<<(12-n))
			}
			for _, va := range edges() {
				check(t, m, c, va)
			}
		}
	}
}

// TestBaseBits: each bit of a base counts, or does not.
func TestBaseBits(t *testing.T) {
	m := newMemory(map[uint64]uint32{})
	for n := range 8 {
		for i := range 64 {
			bit := uint64(1) << i
			var want0, want1 uint64
			if i >= 14-n {
				want0 = bit
			}
			if i >= 14 {
				want1 = bit
			}
			c := api.Context{On: true, N: n, Base0: bit}
			wantReads(t, m, c, 0, want0)
			c = api.Context{On: true, N: n, Base1: bit}
			if n > 0 {
				wantReads(t, m, c, 1<<31, want1+0x2000)
			}
		}
	}
}

func TestShutTables(t *testing.T) {
	// A section in each of the two tables; of N 0 and 7 alike.
	m := newMemory(map[uint64]uint32{0x4000: 0x00100c02, 0x8000 + 4*4095: 0x00200c02, 0x4000 + 4*4095: 0x00300c02})
	shut := api.Fault{Kind: api.FTrans1}
	for _, pd0 := range bools {
		for _, pd1 := range bools {
			for n := range 8 {
				c := api.Context{On: true, N: n, PD0: pd0, PD1: pd1, Base0: 0x4000, Base1: 0x8000, DACR: 3}
				shutLast := pd1
				if n == 0 {
					shutLast = pd0
				}
				for va, barred := range map[uint32]bool{0: pd0, 0xfffff: pd0, last: shutLast, last - 0xfffff: shutLast} {
					m.asked = nil
					b, f := walk.Walk(m, c, va)
					if barred && (b != api.Trans{} || f != shut || m.asked != nil) {
						t.Errorf("%+v %#x: %+v %+v %#x", c, va, b, f, m.asked)
					}
					if !barred && (b.Size != api.Section || b.VA != va&^0xfffff || f != none || len(m.asked) != 1) {
						t.Errorf("%+v %#x: %+v %+v %#x", c, va, b, f, m.asked)
					}
					check(t, m, c, va)
					if pa, f := walk.Go(m, c, va, true, api.Load); barred && (pa != 0 || f != shut) {
						t.Errorf("%+v %#x: %#x %+v", c, va, pa, f)
					}
				}
				count := 0
				for b := range walk.Blocks(m, c) {
					count++
					wantSame(t, m, c, b, true)
				}
				want := 0
				if !pd0 {
					want++
				}
				if !shutLast {
					want++
				}
				if count != want {
					t.Errorf("%+v: %d blocks, want %d", c, count, want)
				}
			}
		}
	}
}

// errnos: an error is one, whichever it is.
var errnos = []api.Errno{api.ErrBus, api.ErrArg, api.ErrAlign, api.ErrSpoilt, -1, 2, 1 << 40, math.MinInt, math.MaxInt}

func TestNoMemory(t *testing.T) {
	first, second := api.Fault{Kind: api.FWalk1}, api.Fault{Kind: api.FWalk2, Domain: 9}
	c := api.Context{On: true, Base0: 0x4000, DACR: last}
	wantWalk(t, nil, c, 0x1234, api.Trans{}, first)
	wantReads(t, nil, c, 0x1234, 0x4000)
	wantReads(t, nil, c, last, 0x7ffc)
	wantGo(t, nil, c, 0x1234, true, api.Load, 0, first)
	wantBlocks(t, nil, c)
	wantSame(t, nil, c, examplePage, false)
	wantSame(t, nil, c, exampleSection, false)
	wantSame(t, nil, c, api.Trans{}, false)
	for _, e := range errnos {
		// What stands beside an error would be a section, and a page.
		m := newMemory(map[uint64]uint32{0x4000: 0x00015121, 0x4004: 0x00100c02, 0x15000: 0x0000783e, 0x15004: 0x0000883e})
		m.junk = 0x00700c02
		m.bad[0x4000] = e
		wantWalk(t, m, c, 0x1234, api.Trans{}, first)
		wantReads(t, m, c, 0x1234, 0x4000)
		wantGo(t, m, c, 0x1234, true, api.Load, 0, first)
		wantBlocks(t, m, c, api.Trans{Size: api.Section, VA: mib, PA: mib, Leaf: api.Leaf{AP: 3}})
		delete(m.bad, 0x4000)
		m.bad[0x15004] = e
		wantWalk(t, m, c, 0x1234, api.Trans{}, second)
		wantReads(t, m, c, 0x1234, 0x4000, 0x15004)
		wantGo(t, m, c, 0x1234, true, api.Load, 0, second)
		small := api.Trans{Size: api.Small, PA: 0x7000, Domain: 9, Leaf: api.Leaf{AP: 3, Bits: 6, NG: true}}
		wantWalk(t, m, c, 0xfff, small, none)
		wantSame(t, m, c, small, true)
		wantBlocks(t, m, c, small, api.Trans{Size: api.Section, VA: mib, PA: mib, Leaf: api.Leaf{AP: 3}})
		nothing := newMemory(nil)
		nothing.size, nothing.junk, nothing.bad[0x4000] = 0, 0x00700c02, e
		wantWalk(t, nothing, c, 0x1234, api.Trans{}, first)
		wantBlocks(t, nothing, c)
		wantSame(t, nothing, c, small, false)
	}
}

// kindsWords: first-level and second-level words of each kind.
var (
	firstWords  = []uint32{0, 4, 0xfffffffc, 3, 0xffffffff, 0x00015021, 0x000151e1, 0x00015001, 0x00015019, 0x00100c0e, 0xfff9fdfe, 0x12311c12, 0x01940c2a, 0xffffffee, 0x0004000a}
	secondWords = []uint32{0, 4, 0xfffffffc, 0x00018e31, 0xfffffffd, 1, 2, 3, 0x0001083e, 0xffffffff, 0xfffffffe, 0x0000783e}
)

func TestWordsOfEachKind(t *testing.T) {
	kinds := map[int]int{}
	sizes := map[int]int{}
	for domain := range uint32(16) {
		for _, w1 := range firstWords {
			if w1&3 == 1 {
				w1 = w1&^0x1e0 | domain<<5
			}
			for _, w2 := range secondWords {
				m := newMemory(map[uint64]uint32{0x4000 + 4*0x123: w1, 0x15000 + 4*0x45: w2})
				a := check(t, m, api.Context{On: true, Base0: 0x4000}, 0x12345678)
				kinds[a.fault.Kind]++
				sizes[a.trans.Size]++
				if f := a.fault; f.Kind == api.FTrans2 && f != (api.Fault{Kind: api.FTrans2, Domain: int(domain)}) {
					t.Errorf("%+v", f)
				}
			}
		}
	}
	if kinds[api.FNone] == 0 || kinds[api.FTrans1] == 0 || kinds[api.FTrans2] == 0 || len(sizes) != 5 {
		t.Error(kinds, sizes)
	}
}

// TestKindsOfBlocks: one of each kind, written out.
func TestKindsOfBlocks(t *testing.T) {
	m := newMemory(map[uint64]uint32{
		0x4000 + 4*0x123: 0x000150a1, // a table, domain 5
		0x4000 + 4*0x124: 0x12311c72, // a section, domain 3
		0x4000 + 4*0x137: 0x0194002a, // a supersection
		0x15000 + 4*0x45: 0x00018e31,
		0x15000 + 4*0x46: 0x0001083e,
	})
	c := api.Context{On: true, Base0: 0x4000}
	wantWalk(t, m, c, 0x12345678, api.Trans{Size: api.Large, VA: 0x12340000, PA: 0x10000, Domain: 5, Leaf: api.Leaf{AP: 7, Bits: 1, NG: true, XN: true}}, none)
	wantWalk(t, m, c, 0x12346fff, api.Trans{Size: api.Small, VA: 0x12346000, PA: 0x10000, Domain: 5, Leaf: api.Leaf{AP: 3, Bits: 6, NG: true}}, none)
	wantWalk(t, m, c, 0x12347000, api.Trans{}, api.Fault{Kind: api.FTrans2, Domain: 5})
	wantWalk(t, m, c, 0x124fffff, api.Trans{Size: api.Section, VA: 0x12400000, PA: 0x12300000, Domain: 3, Leaf: api.Leaf{AP: 3, Bits: 9, XN: true}}, none)
	wantWalk(t, m, c, 0x13712345, api.Trans{Size: api.Super, VA: 0x13000000, PA: 0x1901000000, Leaf: api.Leaf{Bits: 4}}, none)
	wantWalk(t, m, c, 0x13812345, api.Trans{}, api.Fault{Kind: api.FTrans1})
	wantReads(t, m, c, 0x12345678, 0x448c, 0x15114)
	wantReads(t, m, c, 0x12347000, 0x448c, 0x1511c)
	wantReads(t, m, c, 0x13712345, 0x44dc)
	wantReads(t, m, c, 0x13812345, 0x44e0)
}

// TestSayNothing: fields of the context that no walk looks at.
func TestSayNothing(t *testing.T) {
	m := example()
	for va := uint32(0); va < 4*mib; va += page {
		want := check(t, m, exampleContext, va)
		for _, asid := range []int{-1, 0, 255, 256, math.MinInt, math.MaxInt} {
			c := exampleContext
			c.Asid, c.TRE, c.AFE, c.DACR, c.PRRR, c.NMRR = asid, true, true, 0, last, last
			got := check(t, m, c, va)
			if got.trans != want.trans || got.fault != want.fault || !slices.Equal(got.reads, want.reads) {
				t.Fatalf("%#x: %+v, want %+v", va, got, want)
			}
		}
	}
	c := exampleContext
	c.Asid, c.TRE, c.AFE, c.DACR, c.PRRR, c.NMRR = -1, true, true, 0, last, last
	wantBlocks(t, m, c, examplePage, exampleSection)
	wantSame(t, m, c, examplePage, true)
}

// TestReadsIsNew: what a caller writes into the list is seen by nobody.
func TestReadsIsNew(t *testing.T) {
	m := example()
	got := walk.Reads(m, exampleContext, 0x1234)
	clear(got[:cap(got)])
	wantReads(t, m, exampleContext, 0x1234, 0x4000, 0x5004)
}

// randomMemory: tables full of words of all kinds, and a context over them; some of its words have no memory.
func randomMemory(r *rand.Rand) (*memory, api.Context) {
	m := newMemory(map[uint64]uint32{})
	c := api.Context{On: true, N: r.Intn(8) + 8*r.Intn(3), PD0: r.Intn(8) == 0, PD1: r.Intn(8) == 0, Base0: 0x100000 + uint64(r.Intn(0x80)), Base1: 0x108000 + uint64(r.Intn(0x4000)), DACR: r.Uint32()}
	n := c.N & 7
	for range 30 {
		// Near one another, so that they share 16 MiB, and near the border.
		va := uint32(r.Intn(3))<<24 | uint32(r.Intn(16))<<20
		switch r.Intn(3) {
		case 0:
			va += uint32(1 << (32 - n))
		case 1:
			va = last - va
		}
		at, _ := rootModel(c, va)
		at += 4 * uint64(va/mib)
		fillFirst(r, m, at)
	}
	return m, c
}

// fillFirst: some first-level word at an address, with a table behind it, if it is one.
func fillFirst(r *rand.Rand, m *memory, at uint64) {
	w := r.Uint32()
	switch r.Intn(8) {
	case 0:
		m.bad[at] = errnos[r.Intn(len(errnos))]
	case 1:
		m.words[at] = w&^3 | 2 | 1<<18
	case 2:
		for i := range uint64(16) {
			m.words[at&^63+4*i] = w&^3 | 2 | 1<<18
		}
	case 3:
		m.words[at] = w&^3 | 2
	case 4:
		m.words[at] = w
	default:
		table := uint32(0x200000 + 1024*r.Intn(4))
		m.words[at] = table | w&0x3fc | 1
		for range 100 {
			fillSecond(r, m, uint64(table))
		}
	}
}

// fillSecond: some second-level words; large pages often by their sixteen, of which one may say otherwise.
func fillSecond(r *rand.Rand, m *memory, table uint64) {
	w := r.Uint32()
	switch r.Intn(4) {
	case 0:
		at := table + 64*uint64(r.Intn(16))
		for i := range uint64(16) {
			m.words[at+4*i] = w&^3 | 1
		}
	case 1:
		at := table + 4*uint64(r.Intn(256))
		m.words[at] ^= 1 << r.Intn(32)
	case 2:
		m.bad[table+4*uint64(r.Intn(256))] = errnos[r.Intn(len(errnos))]
	default:
		m.words[table+4*uint64(r.Intn(256))] = w
	}
}

// allPages: what the model finds at every page, once, in the chapter's order.
func allPages(m *memory, c api.Context) []api.Trans {
	m.asked = nil
	found := map[api.Trans]int{}
	for p := range uint32(mib) {
		if a := model(m, c, p*page); a.fault == none {
			found[a.trans]++
		}
		m.asked = m.asked[:0]
	}
	l := slices.Collect(maps.Keys(found))
	slices.SortFunc(l, func(a, b api.Trans) int {
		if ahead(a, b) {
			return -1
		}
		return 1
	})
	return l
}

// ahead: does a stand ahead of b, in the order of P903?
func ahead(a, b api.Trans) bool {
	switch {
	case a.VA != b.VA:
		return a.VA < b.VA
	case a.Size != b.Size:
		return a.Size < b.Size
	case a.PA != b.PA:
		return a.PA < b.PA
	case a.Domain != b.Domain:
		return a.Domain < b.Domain
	case a.Leaf.AP != b.Leaf.AP:
		return a.Leaf.AP < b.Leaf.AP
	case a.Leaf.Bits != b.Leaf.Bits:
		return a.Leaf.Bits < b.Leaf.Bits
	case a.Leaf.NG != b.Leaf.NG:
		return b.Leaf.NG
	}
	return !a.Leaf.XN && b.Leaf.XN
}

// sameModel: the walk at every page of a right block.
func sameModel(m *memory, c api.Context, b api.Trans) bool {
	for at := uint64(b.VA); at < uint64(b.VA)+desc.Bytes(b.Size); at += page {
		if a := model(m, c, uint32(at)); a.trans != b || a.fault != none {
			return false
		}
	}
	return true
}

func TestRandomMemories(t *testing.T) {
	var whole, part [api.Super + 1]int
	for seed := range int64(12) {
		m, c := randomMemory(rand.New(rand.NewSource(seed)))
		want := allPages(m, c)
		wantBlocks(t, m, c, want...)
		for _, b := range want {
			same := sameModel(m, c, b)
			if got := walk.Same(m, c, b); got != same {
				t.Fatalf("seed %d: Same(%+v) = %v", seed, b, got)
			}
			if same {
				whole[b.Size]++
			} else {
				part[b.Size]++
			}
			if !same && b.Size != api.Large && b.Size != api.Super {
				t.Fatalf("seed %d: %+v is not whole", seed, b)
			}
		}
	}
	if min(whole[api.Small], whole[api.Large], whole[api.Section], whole[api.Super], part[api.Large], part[api.Super]) < 5 {
		t.Errorf("%d whole, %d in part", whole, part)
	}
}

// TestBlockIsOne: P906, by Walk alone.
func TestBlockIsOne(t *testing.T) {
	for seed := range int64(20) {
		r := rand.New(rand.NewSource(100 + seed))
		m, c := randomMemory(r)
		for range 2000 {
			va := someAddress(r, c)
			want := check(t, m, c, va)
			for _, other := range []uint32{va &^ 0xfff, va | 0xfff, va ^ uint32(r.Intn(page))} {
				wantWalk(t, m, c, other, want.trans, want.fault)
				wantReads(t, m, c, other, want.reads...)
			}
			if want.fault != none {
				continue
			}
			b := want.trans
			size := uint32(desc.Bytes(b.Size))
			if !desc.Right(b) || va < b.VA || va-b.VA >= size {
				t.Fatalf("%#x lies not in %+v", va, b)
			}
			if b.Size == api.Small || b.Size == api.Section {
				wantWalk(t, m, c, b.VA, b, none)
				wantWalk(t, m, c, b.VA+size-1, b, none)
				wantWalk(t, m, c, b.VA+uint32(r.Intn(int(size))), b, none)
			}
		}
	}
}

// someAddress: near those that randomMemory fills.
func someAddress(r *rand.Rand, c api.Context) uint32 {
	va := uint32(r.Intn(3 << 24))
	switch r.Intn(3) {
	case 0:
		return va + uint32(1<<(32-c.N&7))
	case 1:
		return last - va
	}
	return va
}

// large: a second-level word of a large page; small and super likewise.
func large(pa uint32, ap, bits uint32, ng, xn bool) uint32 {
	w := pa | 1 | ap&3<<4 | ap>>2<<9 | bits>>3<<12 | bits>>1&3<<2 | bits&1<<10
	return w | flag(ng, 11) | flag(xn, 15)
}

func super(pa uint64, ap, bits uint32, ng, xn bool) uint32 {
	w := uint32(pa) | uint32(pa>>32&15<<20) | uint32(pa>>36<<5) | 1<<18 | 2 | ap&3<<10 | ap>>2<<15 | bits>>3<<12 | bits>>1&3<<2 | bits&1<<16
	return w | flag(ng, 17) | flag(xn, 4)
}

func flag(b bool, at int) uint32 {
	if b {
		return 1 << at
	}
	return 0
}

// inOrder: leaves and addresses (in units of a block) as P903 orders them: each stands behind the one ahead of it by one field, and ahead of it by a later one.
var inOrder = []struct {
	unit uint64
	leaf api.Leaf
}{
	{0, api.Leaf{}},
	{0, api.Leaf{XN: true}},
	{0, api.Leaf{NG: true}},
	{0, api.Leaf{NG: true, XN: true}},
	{0, api.Leaf{Bits: 1}},
	{0, api.Leaf{Bits: 1, XN: true}},
	{0, api.Leaf{Bits: 9, NG: true}},
	{0, api.Leaf{Bits: 62}},
	{0, api.Leaf{Bits: 63, NG: true, XN: true}},
	{0, api.Leaf{AP: 1}},
	{0, api.Leaf{AP: 4, Bits: 63, NG: true, XN: true}},
	{0, api.Leaf{AP: 7, Bits: 2}},
	{1, api.Leaf{}},
	{1, api.Leaf{AP: 7, Bits: 63, NG: true, XN: true}},
	{2, api.Leaf{AP: 3, XN: true}},
	{255, api.Leaf{Bits: 5}},
}

func TestOrderAtOneVA(t *testing.T) {
	for seed := range int64(20) {
		shuffled := rand.New(rand.NewSource(seed)).Perm(16)
		m := newMemory(map[uint64]uint32{0x4000 + 4*0x123: 0x000150a1})
		var larges, supers []api.Trans
		for i, o := range inOrder {
			l := o.leaf
			at := uint64(shuffled[i])
			m.words[0x15000+64*4+4*at] = large(uint32(o.unit)<<16, uint32(l.AP), l.Bits, l.NG, l.XN)
			larges = append(larges, api.Trans{Size: api.Large, VA: 0x12340000, PA: o.unit << 16, Domain: 5, Leaf: l})
			pa := o.unit << 32 // of the bits 35 to 32 and 39 to 36 alone
			m.words[0x4000+4*(0x450+at)] = super(pa, uint32(l.AP), l.Bits, l.NG, l.XN)
			supers = append(supers, api.Trans{Size: api.Super, VA: 0x45000000, PA: pa, Leaf: l})
		}
		c := api.Context{On: true, Base0: 0x4000}
		wantBlocks(t, m, c, slices.Concat(larges, supers)...)
		for _, b := range slices.Concat(larges, supers) {
			wantSame(t, m, c, b, false)
		}
	}
}

// TestSizesAtOneVA: blocks of several sizes begin at one address, the one that is met last ahead of those that are met first.
func TestSizesAtOneVA(t *testing.T) {
	for _, va := range []uint32{0, 0x12000000, 0xff000000} {
		at := 0x4000 + 4*uint64(va>>20)
		m := newMemory(map[uint64]uint32{
			at:             0x00015021,
			at + 4:         0x00300c02,
			at + 4*15:      super(0x1000000, 3, 0, false, false),
			0x15000:        0x00007032, // small
			0x15004:        0x00008032,
			0x15000 + 4*15: large(0x20000, 3, 0, false, false),
			0x15000 + 4*16: 0x00009032,
		})
		c := api.Context{On: true, Base0: 0x4000}
		leaf := api.Leaf{AP: 3}
		blocks := []api.Trans{
			{Size: api.Small, VA: va, PA: 0x7000, Domain: 1, Leaf: leaf},
			{Size: api.Large, VA: va, PA: 0x20000, Domain: 1, Leaf: leaf},
			{Size: api.Super, VA: va, PA: 0x1000000, Leaf: leaf},
			{Size: api.Small, VA: va + 0x1000, PA: 0x8000, Domain: 1, Leaf: leaf},
			{Size: api.Small, VA: va + 0x10000, PA: 0x9000, Domain: 1, Leaf: leaf},
			{Size: api.Section, VA: va + mib, PA: 0x300000, Leaf: leaf},
		}
		wantBlocks(t, m, c, blocks...)
		m.words[at] = 0x00400c02
		wantBlocks(t, m, c,
			api.Trans{Size: api.Section, VA: va, PA: 0x400000, Leaf: leaf},
			api.Trans{Size: api.Super, VA: va, PA: 0x1000000, Leaf: leaf},
			api.Trans{Size: api.Section, VA: va + mib, PA: 0x300000, Leaf: leaf})
	}
}

// TestFirstAndLast: blocks of each size at both ends of the addresses, each once.
func TestFirstAndLast(t *testing.T) {
	leaf := api.Leaf{AP: 3}
	c := api.Context{On: true, Base0: 0x4000}
	m := newMemory(map[uint64]uint32{0x4000: 0x00015001, 0x4000 + 4*4095: 0x00015001, 0x15000: 0x00007032, 0x15000 + 4*255: 0x00008032})
	wantBlocks(t, m, c,
		api.Trans{Size: api.Small, PA: 0x7000, Leaf: leaf}, api.Trans{Size: api.Small, VA: 0xff000, PA: 0x8000, Leaf: leaf},
		api.Trans{Size: api.Small, VA: 0xfff00000, PA: 0x7000, Leaf: leaf}, api.Trans{Size: api.Small, VA: 0xfffff000, PA: 0x8000, Leaf: leaf})
	for i := range uint64(16) {
		m.words[0x15000+4*i] = large(0x20000, 3, 0, false, false)
		m.words[0x15000+4*(240+i)] = large(0x30000, 3, 0, false, false)
	}
	wantBlocks(t, m, c,
		api.Trans{Size: api.Large, PA: 0x20000, Leaf: leaf}, api.Trans{Size: api.Large, VA: 0xf0000, PA: 0x30000, Leaf: leaf},
		api.Trans{Size: api.Large, VA: 0xfff00000, PA: 0x20000, Leaf: leaf}, api.Trans{Size: api.Large, VA: 0xffff0000, PA: 0x30000, Leaf: leaf})
	m.words[0x4000], m.words[0x4000+4*4095] = 0x00100c02, 0xfff00c02
	wantBlocks(t, m, c, api.Trans{Size: api.Section, PA: mib, Leaf: leaf}, api.Trans{Size: api.Section, VA: 0xfff00000, PA: 0xfff00000, Leaf: leaf})
	for i := range uint64(16) {
		m.words[0x4000+4*i] = super(0xffff000000, 3, 0, false, false)
		m.words[0x4000+4*(4080+i)] = super(0, 3, 0, false, false)
	}
	supers := []api.Trans{{Size: api.Super, PA: 0xffff000000, Leaf: leaf}, {Size: api.Super, VA: 0xff000000, Leaf: leaf}}
	wantBlocks(t, m, c, supers...)
	wantSame(t, m, c, supers[0], true)
	wantSame(t, m, c, supers[1], true)
	wantGo(t, m, api.Context{On: true, Base0: 0x4000, DACR: 1}, 0xffffff, false, api.Load, 0xffffffffff, none)
}

// firstOf: so many of a sequence, which is left behind them.
func firstOf(s iter.Seq[api.Trans], n int) []api.Trans {
	var l []api.Trans
	if n == 0 {
		return l
	}
	for b := range s {
		l = append(l, b)
		if len(l) == n {
			break
		}
	}
	return l
}

func TestLeftAndAgain(t *testing.T) {
	m, c := randomMemory(rand.New(rand.NewSource(7)))
	c.PD0, c.PD1 = false, false
	s := walk.Blocks(m, c)
	all := slices.Collect(s)
	if len(all) < 50 {
		t.Fatalf("%d blocks", len(all))
	}
	for n := range len(all) + 1 {
		if got := firstOf(s, n); !slices.Equal(got, all[:n]) {
			t.Fatalf("the first %d: %+v", n, got)
		}
	}
	if got := slices.Collect(s); !slices.Equal(got, all) {
		t.Error("another list, gone through again")
	}
	// Two at a time, one of them behind the other.
	next, stop := iter.Pull(s)
	defer stop()
	for i, b := range firstOf(s, 10) {
		if got, ok := next(); !ok || got != all[i] || b != all[i] {
			t.Errorf("%d: %+v %+v", i, got, b)
		}
	}
	for i, outer := range firstOf(s, 3) {
		for inner := range s {
			if inner != all[0] || outer != all[i] {
				t.Errorf("%+v %+v", inner, outer)
			}
			break
		}
	}
}

func TestBlocksAsTheMemoryStands(t *testing.T) {
	m := newMemory(map[uint64]uint32{})
	m.size = 0x10000
	s := walk.Blocks(m, exampleContext)
	if got := slices.Collect(s); len(got) != 0 {
		t.Error(got)
	}
	m.words = example().words
	if got := slices.Collect(s); !slices.Equal(got, []api.Trans{examplePage, exampleSection}) {
		t.Error(got)
	}
	m.words[0x5004] = 0
	if got := slices.Collect(s); !slices.Equal(got, []api.Trans{exampleSection}) {
		t.Error(got)
	}
	m.words[0x5004], m.words[0x4004] = 0x0000783e, 0x00200c0e
	moved := exampleSection
	moved.PA = 0x200000
	if got := slices.Collect(s); !slices.Equal(got, []api.Trans{examplePage, moved}) {
		t.Error(got)
	}
	m.bad[0x4000] = api.ErrBus
	if got := slices.Collect(s); !slices.Equal(got, []api.Trans{moved}) {
		t.Error(got)
	}
}

// TestBlocksHaveTheirContext: what the caller does with its own context makes no difference.
func TestBlocksHaveTheirContext(t *testing.T) {
	c := exampleContext
	s := walk.Blocks(example(), c)
	c.On, c.PD0 = false, true
	if got := slices.Collect(s); !slices.Equal(got, []api.Trans{examplePage, exampleSection}) {
		t.Error(got, c)
	}
}

// TestAllPagesSmall: as many blocks as there can be.
func TestAllPagesSmall(t *testing.T) {
	m := newMemory(map[uint64]uint32{})
	for i := range uint64(4096) {
		m.words[0x4000+4*i] = 0x00010021
	}
	for i := range uint64(256) {
		m.words[0x10000+4*i] = uint32(i<<12 | 0x32)
	}
	want := uint64(0)
	for b := range walk.Blocks(m, api.Context{On: true, Base0: 0x4000}) {
		if b != (api.Trans{Size: api.Small, VA: uint32(want), PA: want % mib, Domain: 1, Leaf: api.Leaf{AP: 3}}) {
			t.Fatalf("%#x: %+v", want, b)
		}
		want += page
		m.asked = m.asked[:0]
	}
	if want != 1<<32 {
		t.Errorf("%#x", want)
	}
}

// sizesMemory: a whole block of each size, and a context over them.
func sizesMemory() (*memory, api.Context, []api.Trans) {
	m := newMemory(map[uint64]uint32{0x4000 + 4*0x123: 0x000150a1, 0x4000 + 4*0x124: 0x12311c72, 0x15000 + 4*0x50: 0x0001083e})
	for i := range uint64(16) {
		m.words[0x15000+4*(0x40+i)] = 0x00018e31
		m.words[0x4000+4*(0x130+i)] = 0x0194002a
	}
	return m, api.Context{On: true, Base0: 0x4000}, []api.Trans{
		{Size: api.Large, VA: 0x12340000, PA: 0x10000, Domain: 5, Leaf: api.Leaf{AP: 7, Bits: 1, NG: true, XN: true}},
		{Size: api.Small, VA: 0x12350000, PA: 0x10000, Domain: 5, Leaf: api.Leaf{AP: 3, Bits: 6, NG: true}},
		{Size: api.Section, VA: 0x12400000, PA: 0x12300000, Domain: 3, Leaf: api.Leaf{AP: 3, Bits: 9, XN: true}},
		{Size: api.Super, VA: 0x13000000, PA: 0x1901000000, Leaf: api.Leaf{Bits: 4}},
	}
}

// turned: a block with each of its fields turned, right ones and such as are not.
func turned(b api.Trans) []api.Trans {
	var l []api.Trans
	turn := func(change func(b *api.Trans)) {
		other := b
		change(&other)
		l = append(l, other)
	}
	for _, d := range []int{-1, 1, 2, 3, 4, 8, 16, math.MinInt} {
		turn(func(b *api.Trans) { b.Size += d })
		turn(func(b *api.Trans) { b.Domain += d })
		turn(func(b *api.Trans) { b.Leaf.AP += d })
	}
	for i := range 64 {
		turn(func(b *api.Trans) { b.PA ^= 1 << i })
	}
	for i := range 32 {
		turn(func(b *api.Trans) { b.VA ^= 1 << i })
		turn(func(b *api.Trans) { b.Leaf.Bits ^= 1 << i })
	}
	turn(func(b *api.Trans) { b.Leaf.NG = !b.Leaf.NG })
	turn(func(b *api.Trans) { b.Leaf.XN = !b.Leaf.XN })
	return l
}

func TestSame(t *testing.T) {
	m, c, blocks := sizesMemory()
	wantBlocks(t, m, c, blocks...)
	for _, b := range blocks {
		wantSame(t, m, c, b, true)
		for _, other := range turned(b) {
			wantSame(t, m, c, other, false)
		}
		shut := c
		shut.PD0 = true
		wantSame(t, m, shut, b, false)
		elsewhere := c
		elsewhere.Base0 = 0x8000
		wantSame(t, m, elsewhere, b, false)
		half := c
		half.N, half.Base1 = 7, 0x4000
		wantSame(t, m, half, b, true)
	}
	for _, b := range []api.Trans{{}, {Size: 5}, {Size: -1}, {Size: math.MaxInt}, {Size: math.MinInt}, {Size: api.Small, VA: 0x1234, PA: 0x7000, Domain: 1, Leaf: examplePage.Leaf}} {
		wantSame(t, m, c, b, false)
		wantSame(t, example(), exampleContext, b, false)
		wantSame(t, nil, c, b, false)
	}
}

// TestSameOfParts: Large and Super blocks of which one descriptor, each in its turn, says otherwise.
func TestSameOfParts(t *testing.T) {
	m, c, blocks := sizesMemory()
	for _, b := range []api.Trans{blocks[0], blocks[3]} {
		at, other := uint64(0x15000+4*0x40), []uint32{0, 0x0001083e, 0x00018e35, 0x00018e11, 0x00038e31, 0x00010e31, 0x00018631}
		if b.Size == api.Super {
			at, other = 0x4000+4*0x130, []uint32{0, 3, 0x000150a1, 0x12311c72, 0x0294002a, 0x01a4002a, 0x0194000a, 0x0194042a, 0x0194003a, 0x0194002e}
		}
		for i := range uint64(16) {
			old := m.words[at+4*i]
			for _, w := range other {
				m.words[at+4*i] = w
				wantSame(t, m, c, b, false)
			}
			m.words[at+4*i] = old
			m.bad[at+4*i] = api.ErrBus
			wantSame(t, m, c, b, false)
			delete(m.bad, at+4*i)
			wantSame(t, m, c, b, true)
		}
		// What stands next to its descriptors says nothing of it.
		for _, near := range []uint64{at - 4, at + 4*16} {
			old := m.words[near]
			m.words[near] = ^old
			wantSame(t, m, c, b, true)
			m.words[near] = old
		}
	}
	// Bits that a descriptor has and a translation has not make no difference: those that say nothing, and NS.
	for i := range uint64(16) {
		m.words[0x4000+4*(0x130+i)] = 0x0194002a | uint32(i&1)<<19 | uint32(i>>1&1)<<9
	}
	wantSame(t, m, c, blocks[3], true)
	wantBlocks(t, m, c, blocks...)
}

func TestGo(t *testing.T) {
	m, c, _ := sizesMemory()
	at := map[uint32]uint64{0x12340000: 0x10000, 0x1234ffff: 0x1ffff, 0x12350000: 0x10000, 0x12350abc: 0x10abc, 0x12400001: 0x12300001, 0x124fffff: 0x123fffff, 0x13000000: 0x1901000000, 0x13ffffff: 0x1901ffffff, 0x13712345: 0x1901712345}
	c.DACR = last // where nothing is checked
	for va, pa := range at {
		for _, kind := range wildKinds {
			wantGo(t, m, c, va, false, kind, pa, none)
			wantGo(t, m, c, va, true, kind, pa, none)
		}
	}
	wantGo(t, m, c, 0x12351000, true, api.Load, 0, api.Fault{Kind: api.FTrans2, Domain: 5})
	wantGo(t, m, c, 0, true, api.Load, 0, api.Fault{Kind: api.FTrans1})
}

func TestGoByRights(t *testing.T) {
	// A page of the domain 1, AP 2: a user may read; not to be executed. A section of the domain 0, AP 1: the kernel's, which is executed.
	m := newMemory(map[uint64]uint32{0x4000: 0x00015021, 0x4004: 0x00100402, 0x15004: 0x00007023})
	c := api.Context{On: true, Base0: 0x4000, DACR: 5}
	page2 := api.Fault{Kind: api.FPerm, Level: 2, Domain: 1}
	sect := api.Fault{Kind: api.FPerm, Level: 1}
	for _, kind := range wildKinds {
		load, store, fetch := kind == api.Load, kind == api.Store, kind == api.Fetch
		wantAllowed(t, m, c, 0x1234, false, kind, load, 0x7234, page2)
		wantAllowed(t, m, c, 0x1234, true, kind, load || store, 0x7234, page2)
		wantAllowed(t, m, c, 0x100ffc, false, kind, false, 0, sect)
		wantAllowed(t, m, c, 0x100ffc, true, kind, load || store || fetch, 0x100ffc, sect)
	}
	flags := c
	flags.AFE = true
	wantGo(t, m, flags, 0x1234, false, api.Load, 0, api.Fault{Kind: api.FAccess, Level: 2, Domain: 1})
	wantGo(t, m, flags, 0x100000, true, api.Load, 0x100000, none)
	for dacr, kind := range map[uint32]int{0: api.FDomain, 1: api.FDomain, 9: api.FDomain, 8: api.FDomain, 5: api.FNone, 13: api.FNone} {
		by := c
		by.DACR = dacr
		pa, f := walk.Go(m, by, 0x1234, false, api.Load)
		if kind == api.FNone && (pa != 0x7234 || f != none) || kind != api.FNone && (pa != 0 || f != api.Fault{Kind: kind, Level: 2, Domain: 1}) {
			t.Errorf("DACR %d: %#x %+v", dacr, pa, f)
		}
	}
	// The walk's fault comes first, whatever the rights would say.
	shut := api.Context{On: true, Base0: 0x4000, PD0: true}
	wantGo(t, m, shut, 0x1234, false, 0, 0, api.Fault{Kind: api.FTrans1})
	barred := api.Context{On: true, Base0: 0x4000}
	wantGo(t, m, barred, 0x2000, false, 0, 0, api.Fault{Kind: api.FTrans2, Domain: 1})
}

// wantAllowed: Go's physical address, if it is allowed, else the fault.
func wantAllowed(t *testing.T, m api.Words, c api.Context, va uint32, priv bool, kind int, allowed bool, pa uint64, f api.Fault) {
	t.Helper()
	if allowed {
		wantGo(t, m, c, va, priv, kind, pa, none)
	} else {
		wantGo(t, m, c, va, priv, kind, 0, f)
	}
}

func TestGoAtRandom(t *testing.T) {
	kinds := map[int]int{}
	for seed := range int64(30) {
		r := rand.New(rand.NewSource(200 + seed))
		m, c := randomMemory(r)
		for range 3000 {
			va := someAddress(r, c)
			c.DACR, c.AFE = r.Uint32(), r.Intn(2) == 0
			priv, kind := r.Intn(2) == 0, wildKinds[r.Intn(len(wildKinds))]
			a := model(m, c, va)
			f, pa := a.fault, uint64(0)
			if f == none {
				f = rights.Check(a.trans, c, priv, kind)
			}
			if f == none {
				pa = a.trans.PA + uint64(va)%desc.Bytes(a.trans.Size)
			}
			wantGo(t, m, c, va, priv, kind, pa, f)
			kinds[f.Kind]++
		}
	}
	for _, kind := range []int{api.FNone, api.FWalk1, api.FTrans1, api.FWalk2, api.FTrans2, api.FAccess, api.FDomain, api.FPerm} {
		if kinds[kind] == 0 {
			t.Errorf("no fault of the kind %d", kind)
		}
	}
}
