package desc_test

import (
	"math"
	"math/rand"
	"testing"

	"atlas/api"
	"atlas/desc"
)

var (
	firstKinds  = []int{api.DFault, api.DTable, api.DSection, api.DSuper}
	secondKinds = []int{api.DFault, api.DLarge, api.DSmall}
	blockKinds  = []int{api.DSection, api.DSuper, api.DLarge, api.DSmall}
)

// wild: numbers that are no kind, no size and no domain.
var wild = []int{math.MinInt, math.MinInt + 1, math.MinInt32, -256, -16, -1, 16, 17, 32, 256, 1 << 16, math.MaxInt32, 1 << 32, math.MaxInt - 1, math.MaxInt}

// The example's entries.
var (
	smallEntry = api.Entry{Kind: api.DSmall, Base: 0x10000, Leaf: api.Leaf{AP: 3, Bits: 6, NG: true}}
	largeEntry = api.Entry{Kind: api.DLarge, Base: 0x10000, Leaf: api.Leaf{AP: 7, Bits: 1, NG: true, XN: true}}
)

// bits: w[hi:lo].
func bits(w uint32, hi, lo int) int { return int(w) >> lo & (1<<(hi-lo+1) - 1) }

func bit(w uint32, i int) bool { return bits(w, i, i) == 1 }

// first: the chapter's first table, as it stands.
func first(w uint32) api.Entry {
	leaf := api.Leaf{
		AP:   4*bits(w, 15, 15) + bits(w, 11, 10),
		Bits: uint32(8*bits(w, 14, 12) + 4*bits(w, 3, 3) + 2*bits(w, 2, 2) + bits(w, 16, 16)),
		NG:   bit(w, 17),
		XN:   bit(w, 4),
	}
	switch {
	case bits(w, 1, 0) == 1:
		return api.Entry{Kind: api.DTable, Base: uint64(bits(w, 31, 10)) << 10, Domain: bits(w, 8, 5), NS: bit(w, 3)}
	case bits(w, 1, 0) == 2 && !bit(w, 18):
		return api.Entry{Kind: api.DSection, Base: uint64(bits(w, 31, 20)) << 20, Domain: bits(w, 8, 5), NS: bit(w, 19), Leaf: leaf}
	case bits(w, 1, 0) == 2:
		base := bits(w, 31, 24)<<24 + bits(w, 23, 20)<<32 + bits(w, 8, 5)<<36
		return api.Entry{Kind: api.DSuper, Base: uint64(base), NS: bit(w, 19), Leaf: leaf}
	}
	return api.Entry{}
}

// second: the chapter's second table, as it stands.
func second(w uint32) api.Entry {
	leaf := api.Leaf{AP: 4*bits(w, 9, 9) + bits(w, 5, 4), NG: bit(w, 11)}
	rest := uint32(4*bits(w, 3, 3) + 2*bits(w, 2, 2) + bits(w, 10, 10))
	switch bits(w, 1, 0) {
	case 1:
		leaf.Bits, leaf.XN = uint32(8*bits(w, 14, 12))+rest, bit(w, 15)
		return api.Entry{Kind: api.DLarge, Base: uint64(bits(w, 31, 16)) << 16, Leaf: leaf}
	case 2, 3:
		leaf.Bits, leaf.XN = uint32(8*bits(w, 8, 6))+rest, bit(w, 0)
		return api.Entry{Kind: api.DSmall, Base: uint64(bits(w, 31, 12)) << 12, Leaf: leaf}
	}
	return api.Entry{}
}

// cleared: the word with the bits that the tables do not name for its kind cleared.
func cleared(kind int, w uint32) uint32 {
	switch kind {
	case api.DTable:
		return w & 0b1111_1111_1111_1111_1111_1101_1110_1011
	case api.DSection, api.DSuper:
		return w & 0b1111_1111_1111_1111_1111_1101_1111_1111
	case api.DLarge:
		return w & 0b1111_1111_1111_1111_1111_1110_0011_1111
	case api.DSmall:
		return w | 2
	}
	return 0
}

func rightLeaf(l api.Leaf) bool { return l.AP >= 0 && l.AP <= 7 && l.Bits <= 63 }

// saidFirst, saidSecond: P502 in its own words.
func saidFirst(e api.Entry) bool {
	domain := e.Domain >= 0 && e.Domain <= 15
	switch e.Kind {
	case api.DFault:
		return e == api.Entry{}
	case api.DTable:
		return e.Base%1024 == 0 && e.Base < 1<<32 && domain && e.Leaf == api.Leaf{}
	case api.DSection:
		return e.Base%(1<<20) == 0 && e.Base < 1<<32 && domain && rightLeaf(e.Leaf)
	case api.DSuper:
		return e.Base%(1<<24) == 0 && e.Base < 1<<40 && e.Domain == 0 && rightLeaf(e.Leaf)
	}
	return false
}

func saidSecond(e api.Entry) bool {
	size := map[int]uint64{api.DLarge: 1 << 16, api.DSmall: 1 << 12}[e.Kind]
	switch e.Kind {
	case api.DFault:
		return e == api.Entry{}
	case api.DLarge, api.DSmall:
		return e.Base%size == 0 && e.Base < 1<<32 && e.Domain == 0 && !e.NS && rightLeaf(e.Leaf)
	}
	return false
}

// right: P506 in its own words.
func right(t api.Trans) bool {
	if t.Size < api.Small || t.Size > api.Super {
		return false
	}
	size := []uint64{0, 4096, 65536, 1048576, 16777216}[t.Size]
	end, lastDomain := uint64(1<<32), 15
	if t.Size == api.Super {
		end, lastDomain = 1<<40, 0
	}
	return uint64(t.VA)%size == 0 && t.PA%size == 0 && t.PA < end && t.Domain >= 0 && t.Domain <= lastDomain && rightLeaf(t.Leaf)
}

// trans: P507 in its own words.
func trans(e api.Entry, domain int, va uint32) api.Trans {
	size := map[int]int{api.DSection: api.Section, api.DSuper: api.Super, api.DLarge: api.Large, api.DSmall: api.Small}[e.Kind]
	switch e.Kind {
	case api.DSection, api.DSuper:
		if !saidFirst(e) {
			return api.Trans{}
		}
		domain = e.Domain
	case api.DLarge, api.DSmall:
		if !saidSecond(e) || domain < 0 || domain > 15 {
			return api.Trans{}
		}
	default:
		return api.Trans{}
	}
	bytes := []uint32{0, 4096, 65536, 1048576, 16777216}[size]
	return api.Trans{Size: size, VA: va - va%bytes, PA: e.Base, Domain: domain, Leaf: e.Leaf}
}

// checkWord: P501 and the second half of P504, of one word at both levels.
func checkWord(t *testing.T, w uint32) {
	t.Helper()
	e := desc.Decode1(w)
	if want := first(w); e != want {
		t.Fatalf("Decode1(%#x) = %+v, not %+v", w, e, want)
	}
	if v, f := desc.Encode1(e); v != cleared(e.Kind, w) || f != api.OK {
		t.Fatalf("Encode1 of Decode1(%#x) = %#x, %d", w, v, f)
	}
	e = desc.Decode2(w)
	if want := second(w); e != want {
		t.Fatalf("Decode2(%#x) = %+v, not %+v", w, e, want)
	}
	if v, f := desc.Encode2(e); v != cleared(e.Kind, w) || f != api.OK {
		t.Fatalf("Encode2 of Decode2(%#x) = %#x, %d", w, v, f)
	}
}

// checkEncode: P502, P503 and the first half of P504, of one entry at one level.
func checkEncode(t *testing.T, e api.Entry, said bool, encode func(api.Entry) (uint32, api.Errno), table func(uint32) api.Entry) {
	t.Helper()
	w, f := encode(e)
	switch {
	case !said && (w != 0 || f != api.ErrDesc):
		t.Fatalf("%+v can not be said: %#x, %d", e, w, f)
	case said && (f != api.OK || table(w) != e || cleared(e.Kind, w) != w):
		t.Fatalf("%+v can be said: %#x, %d", e, w, f)
	case said && e.Kind == api.DFault && w != 0:
		t.Fatalf("DFault: %#x", w)
	}
}

// checkEntry: all that is asked of an entry.
func checkEntry(t *testing.T, e api.Entry) {
	t.Helper()
	checkEncode(t, e, saidFirst(e), desc.Encode1, first)
	checkEncode(t, e, saidSecond(e), desc.Encode2, second)
	for _, domain := range []int{0, 5, 15, 16, -1} {
		checkTrans(t, e, domain, 0x8765_4321)
	}
}

func checkTrans(t *testing.T, e api.Entry, domain int, va uint32) {
	t.Helper()
	got, want := desc.Trans(e, domain, va), trans(e, domain, va)
	if got != want {
		t.Fatalf("Trans(%+v, %d, %#x) = %+v, not %+v", e, domain, va, got, want)
	}
	if desc.Right(got) != (got != api.Trans{}) {
		t.Fatalf("Right(%+v) = %v", got, desc.Right(got))
	}
}

// checkBlock: P506 and P508 of one translation.
func checkBlock(t *testing.T, b api.Trans) {
	t.Helper()
	if desc.Right(b) != right(b) {
		t.Fatalf("Right(%+v) = %v", b, desc.Right(b))
	}
	e, f := desc.Entry(b)
	if !right(b) {
		if (e != api.Entry{}) || f != api.ErrDesc {
			t.Fatalf("Entry(%+v) = %+v, %d", b, e, f)
		}
		return
	}
	want := api.Entry{Kind: []int{0, api.DSmall, api.DLarge, api.DSection, api.DSuper}[b.Size], Base: b.PA, Leaf: b.Leaf}
	if b.Size == api.Section {
		want.Domain = b.Domain
	}
	if e != want || f != api.OK {
		t.Fatalf("Entry(%+v) = %+v, %d", b, e, f)
	}
	for _, at := range []uint64{0, 1, desc.Bytes(b.Size) / 2, desc.Bytes(b.Size) - 1} {
		if got := desc.Trans(e, b.Domain, b.VA+uint32(at)); got != b {
			t.Fatalf("Trans(%+v, %d, %#x + %#x) = %+v", e, b.Domain, b.VA, at, got)
		}
	}
}

// blockOf: a translation of that size that is right.
func blockOf(size int) api.Trans {
	b := api.Trans{Size: size, VA: 0x8700_0000, PA: 0x6500_0000, Domain: 9, Leaf: api.Leaf{AP: 5, Bits: 42, XN: true}}
	if size == api.Super {
		b.PA, b.Domain = 0xab_cd00_0000, 0
	}
	return b
}

// entryOf: an entry of that kind that can be said, with as much as there may be.
func entryOf(kind int) api.Entry {
	leaf := api.Leaf{AP: 5, Bits: 0b101101, NG: true}
	switch kind {
	case api.DTable:
		return api.Entry{Kind: kind, Base: 0x1234_5400, Domain: 11, NS: true}
	case api.DSection:
		return api.Entry{Kind: kind, Base: 0x1230_0000, Domain: 11, NS: true, Leaf: leaf}
	case api.DSuper:
		return api.Entry{Kind: kind, Base: 0xab_1200_0000, NS: true, Leaf: leaf}
	case api.DLarge:
		return api.Entry{Kind: kind, Base: 0x1234_0000, Leaf: leaf}
	case api.DSmall:
		return api.Entry{Kind: kind, Base: 0x1234_5000, Leaf: leaf}
	}
	return api.Entry{}
}

func TestExamples(t *testing.T) {
	for w, want := range map[uint32]api.Entry{
		0:                 {},
		0xffffffff:        {},
		0x00010421:        {Kind: api.DTable, Base: 0x10400, Domain: 1},
		0x12311c12:        {Kind: api.DSection, Base: 0x12300000, Leaf: api.Leaf{AP: 3, Bits: 9, XN: true}},
		0x0194000a | 0x20: {Kind: api.DSuper, Base: 0x1901000000, Leaf: api.Leaf{Bits: 4}},
	} {
		if got := desc.Decode1(w); got != want {
			t.Errorf("Decode1(%#x) = %+v", w, got)
		}
	}
	if got := desc.Decode2(0x0001083e); got != smallEntry {
		t.Errorf("%+v", got)
	}
	if got := desc.Decode2(0x00018e31); got != largeEntry {
		t.Errorf("%+v", got)
	}
	if w, e := desc.Encode2(smallEntry); w != 0x0001083e || e != api.OK {
		t.Errorf("%#x, %d", w, e)
	}
	if w, e := desc.Encode1(api.Entry{Kind: api.DSuper, Domain: 1}); w != 0 || e != api.ErrDesc {
		t.Errorf("%#x, %d", w, e)
	}
	if w, e := desc.Encode2(api.Entry{Kind: api.DTable}); w != 0 || e != api.ErrDesc {
		t.Errorf("%#x, %d", w, e)
	}
	want := api.Trans{Size: 2, VA: 0x40010000, PA: 0x10000, Domain: 5, Leaf: largeEntry.Leaf}
	if got := desc.Trans(largeEntry, 5, 0x4001ffff); got != want {
		t.Errorf("%+v", got)
	}
	if got := desc.Trans(largeEntry, 16, 0); got != (api.Trans{}) {
		t.Errorf("%+v", got)
	}
}

// The two lowest bits, with all others off and with all others on.
func TestTheLowestBits(t *testing.T) {
	for low, want := range [][2]int{{api.DFault, api.DFault}, {api.DTable, api.DLarge}, {api.DSection, api.DSmall}, {api.DFault, api.DSmall}} {
		w := uint32(low)
		if desc.Decode1(w).Kind != want[0] || desc.Decode2(w).Kind != want[1] {
			t.Errorf("%#x: %+v, %+v", w, desc.Decode1(w), desc.Decode2(w))
		}
		if want[0] == api.DSection {
			want[0] = api.DSuper
		}
		w |= 0xffff_fffc
		if desc.Decode1(w).Kind != want[0] || desc.Decode2(w).Kind != want[1] {
			t.Errorf("%#x: %+v, %+v", w, desc.Decode1(w), desc.Decode2(w))
		}
	}
	if got := desc.Decode2(0xffff_ffff); got != (api.Entry{Kind: api.DSmall, Base: 0xffff_f000, Leaf: api.Leaf{AP: 7, Bits: 63, NG: true, XN: true}}) {
		t.Errorf("%+v", got)
	}
}

// Each bit on its own, over words of each kind that are nearly empty, nearly full, and mixed.
func TestEverySingleBit(t *testing.T) {
	for _, others := range []uint32{0, 0xffff_fffc, 0x1234_5678, 0xa5a5_a5a4, 0x5a5a_5a58} {
		for low := range uint32(4) {
			w := others | low
			checkWord(t, w)
			for i := range 32 {
				checkWord(t, w^1<<i)
				for j := range i {
					checkWord(t, w^1<<i^1<<j)
				}
			}
		}
	}
}

// All words of the lowest 20 bits, then of the highest ones, with the rest mixed.
func TestRowsOfWords(t *testing.T) {
	for i := range uint32(1 << 20) {
		checkWord(t, i|0xc9b0_0000)
	}
	for i := range uint32(1 << 16) {
		for low := range uint32(4) {
			checkWord(t, i<<16|0x95a4|low)
		}
	}
}

func TestAnyWords(t *testing.T) {
	r := rand.New(rand.NewSource(501))
	for range 500_000 {
		checkWord(t, r.Uint32())
	}
}

// The bits that no table names change nothing; each other bit changes what is said.
func TestBitsThatSayNothing(t *testing.T) {
	for _, c := range []struct {
		kind    int
		decode  func(uint32) api.Entry
		encode  func(api.Entry) (uint32, api.Errno)
		nothing uint32
	}{
		{api.DTable, desc.Decode1, desc.Encode1, 1<<2 | 1<<4 | 1<<9},
		{api.DSection, desc.Decode1, desc.Encode1, 1 << 9},
		{api.DSuper, desc.Decode1, desc.Encode1, 1 << 9},
		{api.DLarge, desc.Decode2, desc.Encode2, 7 << 6},
		{api.DSmall, desc.Decode2, desc.Encode2, 0},
	} {
		e := entryOf(c.kind)
		w, f := c.encode(e)
		if f != api.OK || w&c.nothing != 0 {
			t.Fatalf("%+v: %#x, %d", e, w, f)
		}
		for i := range 32 {
			other := w ^ 1<<i
			if same := c.decode(other) == e; same != (c.nothing>>i&1 == 1) {
				t.Errorf("%+v: %#x and %#x: %v", e, w, other, same)
			}
		}
		if v, f := c.encode(c.decode(w | c.nothing)); v != w || f != api.OK {
			t.Errorf("%#x: %#x, %d", w, v, f)
		}
	}
}

func TestFaultsAreZero(t *testing.T) {
	for i := range uint32(1 << 16) {
		w := i*0x1_0001 ^ i<<7
		if e := desc.Decode1(w &^ 3); e != (api.Entry{}) {
			t.Fatalf("%#x: %+v", w, e)
		}
		if e := desc.Decode1(w | 3); e != (api.Entry{}) {
			t.Fatalf("%#x: %+v", w, e)
		}
		if e := desc.Decode2(w &^ 3); e != (api.Entry{}) {
			t.Fatalf("%#x: %+v", w, e)
		}
	}
}

func TestASupersectionsBase(t *testing.T) {
	for w, base := range map[uint32]uint64{
		1<<18 | 2:                     0,
		1<<18 | 2 | 1<<20:             1 << 32,
		1<<18 | 2 | 1<<23:             1 << 35,
		1<<18 | 2 | 1<<5:              1 << 36,
		1<<18 | 2 | 1<<8:              1 << 39,
		1<<18 | 2 | 1<<24:             1 << 24,
		1<<18 | 2 | 1<<31:             1 << 31,
		1<<18 | 2 | 0xfff<<20 | 15<<5: 0xff_ff00_0000,
		1<<18 | 2 | 0x0f0<<20:         0x0f00_0000,
		1<<18 | 2 | 0x120<<20 | 10<<5: 0xa0_1200_0000,
		1<<18 | 2 | 0x127<<20:         0x07_1200_0000,
		1<<18 | 2 | 0xfff<<20:         0x0f_ff00_0000,
	} {
		e := desc.Decode1(w)
		if e != (api.Entry{Kind: api.DSuper, Base: base}) {
			t.Errorf("%#x: %+v, not %#x", w, e, base)
		}
		if v, f := desc.Encode1(e); v != w || f != api.OK {
			t.Errorf("%+v: %#x, %d", e, v, f)
		}
	}
}

func TestEntriesOfEachKind(t *testing.T) {
	for kind := api.DFault; kind <= api.DSmall; kind++ {
		e := entryOf(kind)
		if !saidFirst(e) && !saidSecond(e) {
			t.Fatalf("%+v", e)
		}
		checkEntry(t, e)
		checkEntry(t, api.Entry{Kind: kind})
	}
}

func TestAKindOfTheOtherLevel(t *testing.T) {
	for _, kind := range firstKinds[1:] {
		if w, f := desc.Encode2(entryOf(kind)); w != 0 || f != api.ErrDesc {
			t.Errorf("%d: %#x, %d", kind, w, f)
		}
		if w, f := desc.Encode2(api.Entry{Kind: kind}); w != 0 || f != api.ErrDesc {
			t.Errorf("%d: %#x, %d", kind, w, f)
		}
	}
	for _, kind := range secondKinds[1:] {
		if w, f := desc.Encode1(entryOf(kind)); w != 0 || f != api.ErrDesc {
			t.Errorf("%d: %#x, %d", kind, w, f)
		}
		if w, f := desc.Encode1(api.Entry{Kind: kind}); w != 0 || f != api.ErrDesc {
			t.Errorf("%d: %#x, %d", kind, w, f)
		}
	}
}

func TestKindsThatAreNone(t *testing.T) {
	for _, kind := range append([]int{6, 7, 8, 9}, wild...) {
		for like := api.DFault; like <= api.DSmall; like++ {
			e := entryOf(like)
			e.Kind = kind
			checkEntry(t, e)
			if got := desc.Trans(e, 0, 0); got != (api.Trans{}) {
				t.Errorf("%+v: %+v", e, got)
			}
		}
	}
}

func TestBases(t *testing.T) {
	for kind := api.DFault; kind <= api.DSmall; kind++ {
		e := entryOf(kind)
		for i := range 64 {
			for _, base := range []uint64{1 << i, 1<<i - 1, 1<<i + 1, 1<<i + 1<<40, 3 << i, e.Base ^ 1<<i, e.Base + 1<<i} {
				e.Base = base
				checkEntry(t, e)
				e = entryOf(kind)
			}
		}
		for _, size := range []uint64{512, 1024, 4096, 1 << 16, 1 << 20, 1 << 24} {
			for _, end := range []uint64{1 << 32, 1 << 40, 0} {
				for _, base := range []uint64{end, end - size, end + size, end - 1, size - 1, size + 1, size, 2*size - 1} {
					e.Base = base
					checkEntry(t, e)
				}
			}
		}
	}
}

func TestDomains(t *testing.T) {
	for kind := api.DFault; kind <= api.DSmall; kind++ {
		e := entryOf(kind)
		for domain := -20; domain < 40; domain++ {
			e.Domain = domain
			checkEntry(t, e)
		}
		for _, domain := range wild {
			e.Domain = domain
			checkEntry(t, e)
		}
	}
	for domain, want := range map[int]api.Errno{-1: api.ErrDesc, 0: api.OK, 15: api.OK, 16: api.ErrDesc} {
		for _, kind := range []int{api.DTable, api.DSection} {
			if _, f := desc.Encode1(api.Entry{Kind: kind, Domain: domain}); f != want {
				t.Errorf("%d, %d: %d", kind, domain, f)
			}
		}
	}
}

func TestLeaves(t *testing.T) {
	for kind := api.DFault; kind <= api.DSmall; kind++ {
		for _, e := range []api.Entry{entryOf(kind), {Kind: kind}} {
			keep := e
			for ap := -9; ap < 20; ap++ {
				e.Leaf.AP = ap
				checkEntry(t, e)
			}
			for _, ap := range wild {
				e.Leaf.AP = ap
				checkEntry(t, e)
			}
			e = keep
			for b := range uint32(200) {
				e.Leaf.Bits = b
				checkEntry(t, e)
			}
			for i := range 32 {
				e.Leaf.Bits = 1<<i | 1
				checkEntry(t, e)
			}
			for _, b := range []uint32{63, 64, math.MaxUint32, math.MaxUint32 - 63} {
				e.Leaf.Bits = b
				checkEntry(t, e)
			}
		}
	}
}

func TestFlags(t *testing.T) {
	for kind := api.DFault; kind <= api.DSmall; kind++ {
		for flags := range 8 {
			for _, e := range []api.Entry{entryOf(kind), {Kind: kind}} {
				e.NS, e.Leaf.NG, e.Leaf.XN = flags&1 != 0, flags&2 != 0, flags&4 != 0
				checkEntry(t, e)
			}
		}
	}
	if _, f := desc.Encode1(api.Entry{Kind: api.DSuper, NS: true}); f != api.OK {
		t.Error(f)
	}
	for _, kind := range secondKinds {
		if w, f := desc.Encode2(api.Entry{Kind: kind, NS: true}); w != 0 || f != api.ErrDesc {
			t.Errorf("%d: %#x, %d", kind, w, f)
		}
	}
}

// extras: entries with one field, each, that is not zero.
func extras(kind int) []api.Entry {
	return []api.Entry{
		{Kind: kind, Base: 1}, {Kind: kind, Base: 1 << 24}, {Kind: kind, Base: 1 << 63}, {Kind: kind, Domain: 1}, {Kind: kind, Domain: -1}, {Kind: kind, NS: true},
		{Kind: kind, Leaf: api.Leaf{AP: 1}}, {Kind: kind, Leaf: api.Leaf{AP: -8}}, {Kind: kind, Leaf: api.Leaf{Bits: 1}}, {Kind: kind, Leaf: api.Leaf{Bits: 1 << 31}},
		{Kind: kind, Leaf: api.Leaf{NG: true}}, {Kind: kind, Leaf: api.Leaf{XN: true}},
	}
}

func TestFaultsAndTablesSayNoMore(t *testing.T) {
	for _, e := range extras(api.DFault) {
		checkEntry(t, e)
		if w, f := desc.Encode1(e); w != 0 || f != api.ErrDesc {
			t.Errorf("%+v: %#x, %d", e, w, f)
		}
		if w, f := desc.Encode2(e); w != 0 || f != api.ErrDesc {
			t.Errorf("%+v: %#x, %d", e, w, f)
		}
	}
	for _, e := range extras(api.DTable) {
		checkEntry(t, e)
		if _, f := desc.Encode1(e); e.Leaf != (api.Leaf{}) && f != api.ErrDesc {
			t.Errorf("%+v: %d", e, f)
		}
	}
	for _, kind := range blockKinds {
		for _, e := range extras(kind) {
			checkEntry(t, e)
		}
	}
}

// anyEntry: near the edge of what can be said.
func anyEntry(r *rand.Rand) api.Entry {
	e := entryOf(r.Intn(6))
	e.Base = r.Uint64() >> r.Intn(40) &^ (1<<r.Intn(30) - 1)
	e.Domain = r.Intn(16) * r.Intn(2)
	e.NS = r.Intn(2) == 0
	if e.Kind > api.DTable || r.Intn(8) == 0 {
		e.Leaf = api.Leaf{AP: r.Intn(8), Bits: r.Uint32() & 63, NG: r.Intn(2) == 0, XN: r.Intn(2) == 0}
	}
	switch r.Intn(12) {
	case 0:
		e.Domain = r.Intn(64) - 32
	case 1:
		e.Leaf.AP = r.Intn(64) - 32
	case 2:
		e.Leaf.Bits = r.Uint32() >> r.Intn(32)
	case 3:
		e.Kind = r.Intn(40) - 20
	}
	return e
}

func TestAnyEntries(t *testing.T) {
	r := rand.New(rand.NewSource(502))
	said := map[int]int{}
	for range 300_000 {
		e := anyEntry(r)
		checkEntry(t, e)
		if saidFirst(e) || saidSecond(e) {
			said[e.Kind]++
		}
	}
	for _, kind := range append([]int{api.DTable}, blockKinds...) {
		if said[kind] < 1000 {
			t.Errorf("only %d entries of kind %d could be said", said[kind], kind)
		}
	}
}

func TestBytesAndRepeats(t *testing.T) {
	for size, want := range map[int][2]int{
		api.Small: {4096, 1}, api.Large: {65536, 16}, api.Section: {1048576, 1}, api.Super: {16777216, 16},
		0: {}, -1: {}, 5: {}, math.MaxInt: {}, math.MinInt: {},
	} {
		if desc.Bytes(size) != uint64(want[0]) || desc.Repeats(size) != want[1] {
			t.Errorf("%d: %d, %d", size, desc.Bytes(size), desc.Repeats(size))
		}
	}
	for _, size := range append([]int{6, 7, 257, 1<<32 + 1}, wild...) {
		if desc.Bytes(size) != 0 || desc.Repeats(size) != 0 {
			t.Errorf("%d: %d, %d", size, desc.Bytes(size), desc.Repeats(size))
		}
	}
}

func TestRightBlocks(t *testing.T) {
	for size := api.Small; size <= api.Super; size++ {
		b := blockOf(size)
		if !desc.Right(b) {
			t.Errorf("%+v", b)
		}
		checkBlock(t, b)
		checkBlock(t, api.Trans{Size: size})
		bytes := desc.Bytes(size)
		top := api.Trans{Size: size, VA: uint32(1<<32 - bytes), PA: 1<<32 - bytes, Domain: 15, Leaf: api.Leaf{AP: 7, Bits: 63, NG: true, XN: true}}
		if size == api.Super {
			top.PA, top.Domain = 1<<40-bytes, 0
		}
		if !desc.Right(top) {
			t.Errorf("%+v", top)
		}
		checkBlock(t, top)
	}
}

// One field alone makes it wrong.
func TestWrongBlocks(t *testing.T) {
	for size := api.Small; size <= api.Super; size++ {
		bytes := desc.Bytes(size)
		end := uint64(1 << 32)
		if size == api.Super {
			end = 1 << 40
		}
		wrong := func(change func(*api.Trans)) {
			t.Helper()
			b := blockOf(size)
			change(&b)
			if desc.Right(b) {
				t.Errorf("%+v is right", b)
			}
			checkBlock(t, b)
		}
		for i := 0; 1<<i < bytes; i++ {
			wrong(func(b *api.Trans) { b.VA |= 1 << i })
			wrong(func(b *api.Trans) { b.PA |= 1 << i })
		}
		for _, pa := range []uint64{end, end + bytes, 1 << 63, 1<<40 + 1<<24, -bytes} {
			wrong(func(b *api.Trans) { b.PA = pa })
		}
		for _, n := range append([]int{-1, 16}, wild...) {
			wrong(func(b *api.Trans) { b.Domain = n })
			wrong(func(b *api.Trans) { b.Leaf.AP = n })
			wrong(func(b *api.Trans) { b.Size = n })
		}
		for _, size := range []int{0, -1, 5, 6} {
			wrong(func(b *api.Trans) { b.Size = size })
		}
		wrong(func(b *api.Trans) { b.Leaf.AP = 8 })
		for _, n := range []uint32{64, 64 + 42, 1 << 31, math.MaxUint32} {
			wrong(func(b *api.Trans) { b.Leaf.Bits = n })
		}
	}
	for domain := 1; domain <= 16; domain++ {
		b := blockOf(api.Super)
		b.Domain = domain
		if desc.Right(b) {
			t.Errorf("%+v is right", b)
		}
		checkBlock(t, b)
	}
	if desc.Right(api.Trans{}) {
		t.Error("the zero translation is right")
	}
	checkBlock(t, api.Trans{})
}

func TestBlocksByEachField(t *testing.T) {
	for size := -1; size <= 6; size++ {
		for i := range 64 {
			b := blockOf(size)
			b.PA ^= 1 << i
			checkBlock(t, b)
			b.PA = 1 << i
			checkBlock(t, b)
			b = blockOf(size)
			b.VA ^= 1 << (i % 32)
			checkBlock(t, b)
		}
		for n := -20; n < 40; n++ {
			b := blockOf(size)
			b.Domain = n
			checkBlock(t, b)
			b = blockOf(size)
			b.Leaf.AP = n
			checkBlock(t, b)
			b.Leaf = api.Leaf{Bits: uint32(n+20) * 2, NG: n%2 == 0, XN: n%3 == 0}
			checkBlock(t, b)
		}
	}
}

func TestAnyBlocks(t *testing.T) {
	r := rand.New(rand.NewSource(506))
	found := 0
	for range 300_000 {
		b := api.Trans{
			Size:   1 + r.Intn(4),
			VA:     r.Uint32() &^ (1<<(12+r.Intn(16)) - 1),
			PA:     r.Uint64() >> (24 + r.Intn(12)) &^ (1<<(12+r.Intn(16)) - 1),
			Domain: r.Intn(17) * r.Intn(2),
			Leaf:   api.Leaf{AP: r.Intn(9), Bits: r.Uint32() % 66, NG: r.Intn(2) == 0, XN: r.Intn(2) == 0},
		}
		checkBlock(t, b)
		if right(b) {
			found++
		}
	}
	if found < 10_000 {
		t.Errorf("only %d were right", found)
	}
}

func TestTransOfEachKind(t *testing.T) {
	for _, kind := range blockKinds {
		for _, domain := range append([]int{-1, 0, 1, 15, 16}, wild...) {
			for _, va := range []uint32{0, 1, 0xfff, 0x1000, 0x8765_4321, 0xffff, 0xf_ffff, 0xff_ffff, 0xffff_ffff} {
				checkTrans(t, entryOf(kind), domain, va)
			}
		}
	}
	e := entryOf(api.DSection)
	e.Domain = 11
	if got := desc.Trans(e, -1, 0x123f_ffff); got != (api.Trans{Size: api.Section, VA: 0x1230_0000, PA: e.Base, Domain: 11, Leaf: e.Leaf}) {
		t.Errorf("%+v", got)
	}
	e = entryOf(api.DSuper)
	if got := desc.Trans(e, 5, 0x12ff_ffff); got != (api.Trans{Size: api.Super, VA: 0x1200_0000, PA: e.Base, Leaf: e.Leaf}) {
		t.Errorf("%+v", got)
	}
	e = entryOf(api.DSmall)
	if got := desc.Trans(e, 15, 0xffff_ffff); got != (api.Trans{Size: api.Small, VA: 0xffff_f000, PA: e.Base, Domain: 15, Leaf: e.Leaf}) {
		t.Errorf("%+v", got)
	}
	for _, domain := range append([]int{-1, 16}, wild...) {
		if got := desc.Trans(e, domain, 0); got != (api.Trans{}) {
			t.Errorf("%d: %+v", domain, got)
		}
	}
}

func TestTransOfNoBlock(t *testing.T) {
	for _, e := range []api.Entry{
		{}, entryOf(api.DTable), {Kind: api.DTable},
		{Kind: api.DSuper, Domain: 1}, {Kind: api.DSection, Domain: 16}, {Kind: api.DSection, Domain: -1}, {Kind: api.DSection, Base: 4096},
		{Kind: api.DSection, Base: 1 << 32}, {Kind: api.DSuper, Base: 1 << 40}, {Kind: api.DSuper, Base: 1 << 20},
		{Kind: api.DLarge, Domain: 1}, {Kind: api.DSmall, Domain: 1}, {Kind: api.DLarge, NS: true}, {Kind: api.DSmall, NS: true},
		{Kind: api.DLarge, Base: 4096}, {Kind: api.DSmall, Base: 1}, {Kind: api.DSmall, Base: 1 << 32},
		{Kind: api.DSmall, Leaf: api.Leaf{AP: 8}}, {Kind: api.DSection, Leaf: api.Leaf{AP: -1}}, {Kind: api.DLarge, Leaf: api.Leaf{Bits: 64}},
		{Kind: 6}, {Kind: -1}, {Kind: math.MaxInt}, {Kind: math.MinInt},
	} {
		if got := desc.Trans(e, 0, 0x1234_5678); got != (api.Trans{}) {
			t.Errorf("%+v: %+v", e, got)
		}
	}
}

// What a word of a table says, of each block it says, comes back as the word.
func TestFromWordToBlockAndBack(t *testing.T) {
	r := rand.New(rand.NewSource(508))
	for range 100_000 {
		w, domain := r.Uint32(), r.Intn(16)
		for _, e := range []api.Entry{desc.Decode1(w), desc.Decode2(w)} {
			b := desc.Trans(e, domain, r.Uint32())
			if b == (api.Trans{}) {
				if e.Kind > api.DTable {
					t.Fatalf("%#x: %+v has no translation", w, e)
				}
				continue
			}
			checkBlock(t, b)
			e.NS = false
			if back, f := desc.Entry(b); back != e || f != api.OK {
				t.Fatalf("%#x: %+v, %d, not %+v", w, back, f, e)
			}
		}
	}
}
