package attr_test

import (
	"math"
	"math/rand"
	"strings"
	"testing"

	"atlas/api"
	"atlas/attr"
)

// The registers of P6.5, under which the remapped bits mean nearly what the plain ones do.
const (
	plainPRRR = 0x000A86A4
	plainNMRR = 0x40E040E0
)

const all = math.MaxUint32

var strong = api.Mem{Type: api.MemStrong, Share: api.ShareOuter}

// wild: numbers that no field of a kind has.
var wild = []int{math.MinInt, math.MinInt + 1, math.MinInt32, -256, -4, -3, -2, -1, 4, 5, 8, 256, 257, 1 << 16, math.MaxInt32, 1 << 32, 1<<32 + 1, math.MaxInt - 1, math.MaxInt}

// registers: those of the tests that want a few of all sorts.
var registers = []uint32{0, all, plainPRRR, plainNMRR, 0x55555555, 0xAAAAAAAA, 0x0000FFFF, 0xFFFF0000, 0x00005555, 0x0000AAAA, 0xFF0FAAAA, 0x00050000, 0x000A5555, 0x12345678}

// got: an answer of Of.
type got struct {
	m api.Mem
	e api.Errno
}

func of(tre bool, prrr, nmrr, bits uint32) got {
	m, e := attr.Of(tre, prrr, nmrr, bits)
	return got{m, e}
}

// number: the bits, from the parts of which they are made.
func number(tex, c, b, s int) uint32 { return uint32(8*tex + 4*c + 2*b + s) }

func normal(inner, outer, share int) api.Mem {
	return api.Mem{Type: api.MemNormal, Inner: inner, Outer: outer, Share: share}
}

func device(share int) api.Mem { return api.Mem{Type: api.MemDevice, Share: share} }

// plainModel: the chapter's table, row by row.
func plainModel(bits uint32) got {
	if bits > 63 {
		return got{api.Mem{}, api.ErrBits}
	}
	tex, c, b, s := int(bits)/8, int(bits)/4%2, int(bits)/2%2, int(bits)%2
	share := []int{api.ShareNone, api.ShareOuter}[s]
	switch [3]int{tex, c, b} {
	case [3]int{0, 0, 0}:
		return got{strong, 0}
	case [3]int{0, 0, 1}:
		return got{device(api.ShareOuter), 0}
	case [3]int{0, 1, 0}:
		return got{normal(api.CacheThrough, api.CacheThrough, share), 0}
	case [3]int{0, 1, 1}:
		return got{normal(api.CacheBack, api.CacheBack, share), 0}
	case [3]int{1, 0, 0}:
		return got{normal(api.CacheNone, api.CacheNone, share), 0}
	case [3]int{1, 1, 1}:
		return got{normal(api.CacheBackAlloc, api.CacheBackAlloc, share), 0}
	case [3]int{2, 0, 0}:
		return got{device(api.ShareNone), 0}
	}
	if tex >= 4 {
		return got{normal(2*c+b, tex-4, share), 0}
	}
	return got{api.Mem{}, api.ErrReserved}
}

// bit: that one of w.
func bit(w uint32, i int) int { return int(uint64(w) / (1 << i) % 2) }

// remapModel: F6.2, sentence by sentence.
func remapModel(prrr, nmrr, bits uint32) got {
	if bits > 63 {
		return got{api.Mem{}, api.ErrBits}
	}
	tex, c, b, s := int(bits)/8, int(bits)/4%2, int(bits)/2%2, int(bits)%2
	n := 4*(tex%2) + 2*c + b
	kind := 2*bit(prrr, 2*n+1) + bit(prrr, 2*n)
	if n == 6 || kind == 3 {
		return got{api.Mem{}, api.ErrReserved}
	}
	if kind == api.MemStrong {
		return got{strong, 0}
	}
	shared := false
	switch {
	case kind == api.MemDevice && s == 1:
		shared = bit(prrr, 17) == 1
	case kind == api.MemDevice:
		shared = bit(prrr, 16) == 1
	case s == 1:
		shared = bit(prrr, 19) == 1
	default:
		shared = bit(prrr, 18) == 1
	}
	share := api.ShareNone
	if shared {
		share = api.ShareOuter
		if bit(prrr, 24+n) == 1 {
			share = api.ShareInner
		}
	}
	if kind == api.MemDevice {
		return got{device(share), 0}
	}
	return got{normal(2*bit(nmrr, 2*n+1)+bit(nmrr, 2*n), 2*bit(nmrr, 2*n+17)+bit(nmrr, 2*n+16), share), 0}
}

func model(tre bool, prrr, nmrr, bits uint32) got {
	if tre {
		return remapModel(prrr, nmrr, bits)
	}
	return plainModel(bits)
}

// allKinds: every kind, made by the words of the chapter.
func allKinds() []api.Mem {
	kinds := []api.Mem{strong, device(0), device(1), device(2)}
	for inner := 0; inner < 4; inner++ {
		for outer := 0; outer < 4; outer++ {
			for share := 0; share < 3; share++ {
				kinds = append(kinds, normal(inner, outer, share))
			}
		}
	}
	return kinds
}

// isKind: is it one of them?
func isKind(m api.Mem) bool {
	for _, k := range allKinds() {
		if k == m {
			return true
		}
	}
	return false
}

// noKinds: each kind with one number too great or below 0; caches where there are none; strongly ordered memory that not all share; small numbers in all ways.
func noKinds() []api.Mem {
	var list []api.Mem
	add := func(m api.Mem) {
		if !isKind(m) {
			list = append(list, m)
		}
	}
	for _, k := range allKinds() {
		for _, w := range append([]int{0, 1, 2, 3}, wild...) {
			for field := 0; field < 4; field++ {
				m := k
				*[]*int{&m.Type, &m.Inner, &m.Outer, &m.Share}[field] = w
				add(m)
			}
		}
	}
	for i := 0; i < 6*6*6*6; i++ {
		add(api.Mem{Type: i%6 - 1, Inner: i/6%6 - 1, Outer: i/36%6 - 1, Share: i/216 - 1})
	}
	return list
}

// holdBits holds Of against the model for all 64 bits.
func holdBits(t *testing.T, tre bool, prrr, nmrr uint32) {
	t.Helper()
	for bits := uint32(0); bits < 64; bits++ {
		if g, w := of(tre, prrr, nmrr, bits), model(tre, prrr, nmrr, bits); g != w {
			t.Fatalf("Of(%v, %#x, %#x, %d) = %v, want %v", tre, prrr, nmrr, bits, g, w)
		}
	}
}

func TestOfExamples(t *testing.T) {
	for _, x := range []struct {
		tre              bool
		prrr, nmrr, bits uint32
		want             got
	}{
		{false, 0, 0, 0, got{api.Mem{Share: 2}, 0}},
		{false, 0, 0, 1, got{api.Mem{Share: 2}, 0}},
		{false, 0, 0, 2, got{api.Mem{Type: 1, Share: 2}, 0}},
		{false, 0, 0, 7, got{api.Mem{Type: 2, Inner: 3, Outer: 3, Share: 2}, 0}},
		{false, 0, 0, 8*6 + 4, got{api.Mem{Type: 2, Inner: 2, Outer: 2}, 0}},
		{false, 0, 0, 8*5 + 2, got{api.Mem{Type: 2, Inner: 1, Outer: 1}, 0}},
		{false, 0, 0, 8*1 + 2, got{api.Mem{}, api.ErrReserved}},
		{false, 0, 0, 64, got{api.Mem{}, api.ErrBits}},
		{true, plainPRRR, plainNMRR, 7, got{api.Mem{Type: 2, Inner: 3, Outer: 3, Share: 2}, 0}},
		{true, 0x080A86A4, plainNMRR, 7, got{api.Mem{Type: 2, Inner: 3, Outer: 3, Share: 1}, 0}},
		{true, plainPRRR, plainNMRR, 8*7 + 4, got{api.Mem{}, api.ErrReserved}},
	} {
		if g := of(x.tre, x.prrr, x.nmrr, x.bits); g != x.want {
			t.Errorf("Of(%v, %#x, %#x, %d) = %v, want %v", x.tre, x.prrr, x.nmrr, x.bits, g, x.want)
		}
	}
}

// Bits beyond the six are told ahead of all that they would mean with the upper ones left out.
func TestOfBitsBeyond(t *testing.T) {
	beyond := []uint32{64, 65, 66, 64 + 10, 64 + 12, 64 + 60, 127, 128, 128 + 12, 255, 256, 1 << 16, 1 << 31, 1<<31 + 12, all - 1, all}
	for _, bits := range beyond {
		for _, tre := range []bool{false, true} {
			for _, r := range registers {
				if g := of(tre, r, r, bits); g != (got{api.Mem{}, api.ErrBits}) {
					t.Errorf("Of(%v, %#x, %#x, %#x) = %v", tre, r, r, bits, g)
				}
			}
		}
	}
	if g := of(false, 0, 0, 63); g.e != api.OK {
		t.Errorf("Of(63) = %v", g)
	}
}

// F6.1: all plain bits, whatever the registers would mean.
func TestOfPlain(t *testing.T) {
	for _, prrr := range registers {
		for _, nmrr := range registers {
			holdBits(t, false, prrr, nmrr)
		}
	}
}

// F6.1: the rows that are all else, named one by one.
func TestOfPlainReserved(t *testing.T) {
	reserved := map[uint32]bool{}
	for s := 0; s < 2; s++ {
		for _, x := range [][3]int{{1, 0, 1}, {1, 1, 0}, {2, 0, 1}, {2, 1, 0}, {2, 1, 1}, {3, 0, 0}, {3, 0, 1}, {3, 1, 0}, {3, 1, 1}} {
			reserved[number(x[0], x[1], x[2], s)] = true
		}
	}
	for bits := uint32(0); bits < 64; bits++ {
		g := of(false, all, all, bits)
		if reserved[bits] && g != (got{api.Mem{}, api.ErrReserved}) || !reserved[bits] && g.e != api.OK {
			t.Errorf("Of(false, %d) = %v, reserved: %v", bits, g, reserved[bits])
		}
	}
}

// F6.1: S is for normal memory alone.
func TestOfPlainShared(t *testing.T) {
	for bits := uint32(0); bits < 64; bits += 2 {
		off, on := of(false, 0, 0, bits), of(false, 0, 0, bits+1)
		if off.e == api.OK && off.m.Type == api.MemNormal {
			if off.m.Share != api.ShareNone || on.m.Share != api.ShareOuter {
				t.Errorf("bits %d: shared %d, %d", bits, off.m.Share, on.m.Share)
			}
			off.m.Share = on.m.Share
		}
		if off != on {
			t.Errorf("bits %d: %v with S 0, %v with S 1", bits, off, on)
		}
	}
}

// F6.2: each n with each type, beside types of the others that are like it and unlike it.
func TestOfRemapTypes(t *testing.T) {
	for n := 0; n < 8; n++ {
		for kind := uint32(0); kind < 4; kind++ {
			for _, rest := range registers {
				prrr := rest&^(3<<(2*n)) | kind<<(2*n)
				for _, nmrr := range registers {
					holdBits(t, true, prrr, nmrr)
				}
				for tex := uint32(0); tex < 4; tex++ {
					for s := uint32(0); s < 2; s++ {
						// n's upper bit is the lowest one of TEX
						bits := tex<<4 | uint32(n)<<1 | s
						g := of(true, prrr, 0, bits)
						if n == 6 || kind == 3 {
							if g != (got{api.Mem{}, api.ErrReserved}) {
								t.Fatalf("n %d type %d: %v", n, kind, g)
							}
						} else if g.e != api.OK || g.m.Type != int(kind) {
							t.Fatalf("n %d type %d: %v", n, kind, g)
						}
					}
				}
			}
		}
	}
}

// F6.2: the bits that say who shares, each on its own and all but it, over every type.
func TestOfRemapShared(t *testing.T) {
	for _, types := range []uint32{0, 0x5555, 0xAAAA, 0xFFFF, plainPRRR & 0xFFFF, 0x9186, 0x1249} {
		for i := 16; i < 32; i++ {
			for _, nmrr := range []uint32{0, all, plainNMRR} {
				holdBits(t, true, types|1<<i, nmrr)
				holdBits(t, true, types|0xFFFF0000&^(1<<i), nmrr)
				for j := 24; j < 32; j++ {
					holdBits(t, true, types|1<<i|1<<j, nmrr)
				}
			}
		}
	}
	for _, x := range []struct {
		types, high, s uint32
		want           int
	}{
		{0x5555, 1 << 16, 0, api.ShareOuter}, {0x5555, 1 << 16, 1, api.ShareNone},
		{0x5555, 1 << 17, 0, api.ShareNone}, {0x5555, 1 << 17, 1, api.ShareOuter},
		{0x5555, 3 << 18, 0, api.ShareNone}, {0x5555, 3 << 18, 1, api.ShareNone},
		{0xAAAA, 1 << 18, 0, api.ShareOuter}, {0xAAAA, 1 << 18, 1, api.ShareNone},
		{0xAAAA, 1 << 19, 0, api.ShareNone}, {0xAAAA, 1 << 19, 1, api.ShareOuter},
		{0xAAAA, 3 << 16, 0, api.ShareNone}, {0xAAAA, 3 << 16, 1, api.ShareNone},
		{0x5555, 0xFF000000, 0, api.ShareNone}, {0xAAAA, 0xFF000000, 1, api.ShareNone},
		{0x5555, 0xFF010000, 0, api.ShareInner}, {0xAAAA, 0xFF080000, 1, api.ShareInner},
		{0x0000, 0, 0, api.ShareOuter}, {0x0000, 0xFFFF0000, 1, api.ShareOuter},
		{0x5555, 0x00F00000, 0, api.ShareNone}, {0xAAAA, 0x00F00000, 1, api.ShareNone},
	} {
		for _, n := range []uint32{0, 1, 2, 3, 4, 5, 7} {
			if g := of(true, x.types|x.high, 0, 2*n+x.s); g.e != api.OK || g.m.Share != x.want {
				t.Errorf("PRRR %#x n %d S %d: %v", x.types|x.high, n, x.s, g)
			}
		}
	}
}

// F6.2: the bit 24 + n is that of n, and of no other.
func TestOfRemapInner(t *testing.T) {
	for n := uint32(0); n < 8; n++ {
		for k := uint32(0); k < 8; k++ {
			want := api.ShareOuter
			if k == n {
				want = api.ShareInner
			}
			if g := of(true, 0x000FAAAA|1<<(24+k), 0, 2*n); n != 6 && (g.e != api.OK || g.m.Share != want) {
				t.Errorf("n %d with the bit %d: %v", n, 24+k, g)
			}
		}
	}
}

// F6.2: each n with every Inner and Outer, beside those of the others all 0 or all set.
func TestOfRemapCaches(t *testing.T) {
	for n := 0; n < 8; n++ {
		for both := uint32(0); both < 16; both++ {
			inner, outer := both&3, both>>2
			for _, rest := range []uint32{0, all} {
				nmrr := rest&^(3<<(2*n))&^(3<<(2*n+16)) | inner<<(2*n) | outer<<(2*n+16)
				for s := uint32(0); s < 2; s++ {
					g := of(true, 0xAAAA, nmrr, uint32(2*n)+s)
					want := got{normal(int(inner), int(outer), api.ShareNone), 0}
					if n == 6 {
						want = got{api.Mem{}, api.ErrReserved}
					}
					if g != want {
						t.Errorf("n %d NMRR %#x: %v, want %v", n, nmrr, g, want)
					}
				}
			}
		}
	}
}

// F6.2: both registers 0 and with all bits set.
func TestOfRemapEnds(t *testing.T) {
	for _, nmrr := range []uint32{0, all} {
		for bits := uint32(0); bits < 64; bits++ {
			want := got{strong, 0}
			if bits>>1&7 == 6 {
				want = got{api.Mem{}, api.ErrReserved}
			}
			if g := of(true, 0, nmrr, bits); g != want {
				t.Errorf("PRRR 0, bits %d: %v", bits, g)
			}
			if g := of(true, all, nmrr, bits); g != (got{api.Mem{}, api.ErrReserved}) {
				t.Errorf("PRRR all, bits %d: %v", bits, g)
			}
		}
	}
}

// F6.1, F6.2 over random registers; P6.3: what is answered with OK is a kind, and beside an error nothing is answered.
func TestOfRandom(t *testing.T) {
	r := rand.New(rand.NewSource(6))
	for i := 0; i < 4000; i++ {
		prrr, nmrr := r.Uint32(), r.Uint32()
		if i%2 == 0 {
			prrr &^= prrr << 1 & 0xAAAA & prrr // fewer reserved types
		}
		for _, tre := range []bool{false, true} {
			holdBits(t, tre, prrr, nmrr)
			for bits := uint32(0); bits < 64; bits++ {
				g := of(tre, prrr, nmrr, bits)
				if g.e == api.OK && !isKind(g.m) || g.e != api.OK && g.m != (api.Mem{}) {
					t.Fatalf("Of(%v, %#x, %#x, %d) = %v", tre, prrr, nmrr, bits, g)
				}
			}
		}
	}
}

// P6.4: what is left out changes nothing.
func TestLeftOut(t *testing.T) {
	r := rand.New(rand.NewSource(64))
	for i := 0; i < 2000; i++ {
		prrr, nmrr := r.Uint32(), r.Uint32()
		for bits := uint32(0); bits < 64; bits++ {
			if g, w := of(false, prrr, nmrr, bits), of(false, 0, 0, bits); g != w {
				t.Fatalf("plain bits %d with registers %#x, %#x: %v, want %v", bits, prrr, nmrr, g, w)
			}
			g := of(true, prrr, nmrr, bits)
			for upper := uint32(0); upper < 4; upper++ {
				if o := of(true, prrr, nmrr, bits&15|upper<<4); o != g {
					t.Fatalf("registers %#x, %#x: bits %d: %v, bits %d: %v", prrr, nmrr, bits, g, bits&15|upper<<4, o)
				}
			}
			if g.m.Type != api.MemNormal {
				if o := of(true, prrr, ^nmrr, bits); o != g {
					t.Fatalf("PRRR %#x: bits %d: %v, other caches: %v", prrr, bits, g, o)
				}
			}
		}
	}
}

// P6.5, written out.
func TestPlainBitsRemapped(t *testing.T) {
	for bits := uint32(0); bits < 64; bits++ {
		share := []int{api.ShareNone, api.ShareOuter}[bits&1]
		n := bits >> 1 & 7
		want := []got{
			{strong, 0},
			{device(share), 0},
			{normal(api.CacheThrough, api.CacheThrough, share), 0},
			{normal(api.CacheBack, api.CacheBack, share), 0},
			{normal(api.CacheNone, api.CacheNone, share), 0},
			{device(share), 0},
			{api.Mem{}, api.ErrReserved},
			{normal(api.CacheBackAlloc, api.CacheBackAlloc, share), 0},
		}[n]
		if g := of(true, plainPRRR, plainNMRR, bits); g != want {
			t.Errorf("bits %d: %v, want %v", bits, g, want)
		}
	}
}

// least: the least bits to which the model answers the kind, and how many there are.
func least(tre bool, prrr, nmrr uint32, m api.Mem) (bits uint32, e api.Errno, count int) {
	for b := uint32(63); b < 64; b-- {
		if model(tre, prrr, nmrr, b) == (got{m, 0}) {
			bits, count = b, count+1
		}
	}
	if count == 0 {
		return 0, api.ErrNoBits, 0
	}
	return bits, api.OK, count
}

// holdFind holds Find against the model for every kind, and P6.1; it tells how many bits the kinds have, each in as many ways.
func holdFind(t *testing.T, tre bool, prrr, nmrr uint32, seen map[int]int) {
	t.Helper()
	for _, m := range allKinds() {
		want, wantErr, count := least(tre, prrr, nmrr, m)
		seen[count]++
		bits, e := attr.Find(tre, prrr, nmrr, m)
		if bits != want || e != wantErr {
			t.Fatalf("Find(%v, %#x, %#x, %v) = %d, %d, want %d, %d", tre, prrr, nmrr, m, bits, e, want, wantErr)
		}
		end := bits
		if e == api.OK {
			if g := of(tre, prrr, nmrr, bits); g != (got{m, 0}) {
				t.Fatalf("Of(%v, %#x, %#x, %d) = %v, want %v", tre, prrr, nmrr, bits, g, m)
			}
		} else {
			end = 64
		}
		for b := uint32(0); b < end; b++ {
			if g := of(tre, prrr, nmrr, b); g == (got{m, 0}) {
				t.Fatalf("Find(%v, %#x, %#x, %v) = %d, %d, but %d means it", tre, prrr, nmrr, m, bits, e, b)
			}
		}
	}
}

func TestFindExamples(t *testing.T) {
	for _, x := range []struct {
		m    api.Mem
		want uint32
		e    api.Errno
	}{
		{normal(1, 1, 0), 14, 0},
		{normal(1, 1, 1), 0, api.ErrNoBits},
		{normal(1, 4, 0), 0, api.ErrMem},
		{strong, 0, 0},
		{device(2), 2, 0},
		{device(0), 16, 0},
		{device(1), 0, api.ErrNoBits},
		{normal(2, 2, 0), 4, 0},
		{normal(3, 3, 2), 7, 0},
		{normal(0, 0, 0), 8, 0},
		{normal(3, 0, 2), 39, 0},
		{normal(2, 3, 2), 61, 0},
	} {
		if bits, e := attr.Find(false, 0, 0, x.m); bits != x.want || e != x.e {
			t.Errorf("Find(%v) = %d, %d, want %d, %d", x.m, bits, e, x.want, x.e)
		}
	}
}

// F6.3, P6.1: every kind, with registers under which it has several bits, one way of saying it, or none.
func TestFind(t *testing.T) {
	plain, remapped := map[int]int{}, map[int]int{}
	for _, prrr := range registers {
		for _, nmrr := range registers {
			holdFind(t, false, prrr, nmrr, plain)
			holdFind(t, true, prrr, nmrr, remapped)
		}
	}
	r := rand.New(rand.NewSource(63))
	for i := 0; i < 500; i++ {
		holdFind(t, true, r.Uint32(), r.Uint32(), remapped)
	}
	// the upper bits of TEX are left out, so four is the least that remapped bits can be
	if plain[0] == 0 || plain[1] == 0 || plain[2] == 0 || remapped[0] == 0 || remapped[4] == 0 || remapped[8] == 0 || remapped[56] == 0 {
		t.Errorf("how many bits a kind has: plain %v, remapped %v", plain, remapped)
	}
}

// F6.3: a kind that just one n means is found there, for each n and S.
func TestFindOnly(t *testing.T) {
	for n := uint32(0); n < 8; n++ {
		for s := uint32(0); s < 2; s++ {
			prrr := uint32(2)<<(2*n) | 1<<(18+s)
			want, wantErr := 2*n+s, api.OK
			if n == 6 {
				want, wantErr = 0, api.ErrNoBits
			}
			if bits, e := attr.Find(true, prrr, 0, normal(0, 0, 2)); bits != want || e != wantErr {
				t.Errorf("n %d S %d: Find = %d, %d", n, s, bits, e)
			}
		}
	}
}

// F6.3, F6.4: what is no kind is told ahead of all else, and nothing is answered beside it.
func TestNoKinds(t *testing.T) {
	for _, m := range noKinds() {
		for _, tre := range []bool{false, true} {
			for _, r := range []uint32{0, all, plainPRRR} {
				if bits, e := attr.Find(tre, r, plainNMRR, m); bits != 0 || e != api.ErrMem {
					t.Errorf("Find(%v, %#x, %v) = %d, %d", tre, r, m, bits, e)
				}
			}
		}
		if s, e := attr.Show(m); s != "" || e != api.ErrMem {
			t.Errorf("Show(%v) = %q, %d", m, s, e)
		}
	}
}

// text: a kind's text, written out.
func text(m api.Mem) string {
	share := []string{"private", "inner", "outer"}[m.Share]
	caches := []string{"none", "alloc", "through", "back"}
	switch m.Type {
	case api.MemStrong:
		return "strong"
	case api.MemDevice:
		return "device " + share
	}
	return "normal " + caches[m.Inner] + " " + caches[m.Outer] + " " + share
}

// F6.4, P6.2: every kind there and back.
func TestThereAndBack(t *testing.T) {
	seen := map[string]bool{}
	for _, m := range allKinds() {
		s, e := attr.Show(m)
		if s != text(m) || e != api.OK {
			t.Errorf("Show(%v) = %q, %d", m, s, e)
		}
		if back, e := attr.Read(s); back != m || e != api.OK {
			t.Errorf("Read(%q) = %v, %d", s, back, e)
		}
		seen[s] = true
	}
	if len(seen) != 52 {
		t.Errorf("%d texts", len(seen))
	}
}

func TestTextExamples(t *testing.T) {
	for _, x := range []struct {
		m    api.Mem
		want string
		e    api.Errno
	}{
		{api.Mem{Type: 2, Inner: 1, Outer: 2, Share: 1}, "normal alloc through inner", 0},
		{api.Mem{Share: 2}, "strong", 0},
		{api.Mem{}, "", api.ErrMem},
		{api.Mem{Type: 1}, "device private", 0},
		{api.Mem{Type: 2, Outer: 3, Share: 2}, "normal none back outer", 0},
	} {
		if s, e := attr.Show(x.m); s != x.want || e != x.e {
			t.Errorf("Show(%v) = %q, %d", x.m, s, e)
		}
	}
	if m, e := attr.Read("device private"); m != (api.Mem{Type: 1}) || e != api.OK {
		t.Errorf("Read = %v, %d", m, e)
	}
}

// wrong: Read must refuse the text, unless a kind has it.
func wrong(t *testing.T, known map[string]api.Mem, s string) {
	t.Helper()
	want, ok := known[s]
	m, e := attr.Read(s)
	if ok && (m != want || e != api.OK) || !ok && (m != (api.Mem{}) || e != api.ErrMem) {
		t.Errorf("Read(%q) = %v, %d", s, m, e)
	}
}

func texts() map[string]api.Mem {
	known := map[string]api.Mem{}
	for _, m := range allKinds() {
		known[text(m)] = m
	}
	return known
}

// F6.4: texts that are none's.
func TestReadWrong(t *testing.T) {
	known := texts()
	for _, s := range []string{"", " ", "  ", "    ", "\x00", "\n", "\xff", "ß", "strong outer", "strong private", "strong none none outer", "device", "device ", "device none", "device strong", "device device",
		"device outer outer", "device none none outer", "normal", "normal ", "normal none", "normal none none", "normal outer", "normal none outer", "normal none none none", "normal private none none", "normal none private outer",
		"normal outer outer outer", "normal none none outer outer", "normal none none none outer", "none", "outer", "private", "alloc", "inner", "back", "through", "0", "2 0 0 0", "normal 0 0 0", "normal,none,none,outer",
		"normal\tnone none outer", "normal none none outer\n", "device\u00a0private", "device\tprivate", "device\nprivate", "ordered", "strongly ordered", "Strong", "STRONG", "normal None none outer", "normal none none Outer",
		strings.Repeat(" ", 1<<20), strings.Repeat("normal none none outer ", 1<<10), "strong" + strings.Repeat(" ", 1<<20), strings.Repeat("strong", 1<<18)} {
		wrong(t, known, s)
	}
}

// F6.4: every text with a change in one place: a blank, a letter in the other case, a byte too few, a word too few, too many, or another one.
func TestReadChanged(t *testing.T) {
	known := texts()
	words := []string{"", "strong", "device", "normal", "private", "inner", "outer", "none", "alloc", "through", "back", "x"}
	for s := range known {
		for i := 0; i <= len(s); i++ {
			for _, c := range []string{" ", "\t", "x", "\x00", "é"} {
				wrong(t, known, s[:i]+c+s[i:])
			}
			if i < len(s) {
				wrong(t, known, s[:i]+s[i+1:])
				wrong(t, known, s[:i]+strings.ToUpper(s[i:i+1])+s[i+1:])
				wrong(t, known, s[:i])
			}
		}
		parts := strings.Split(s, " ")
		for i := 0; i <= len(parts); i++ {
			for _, w := range words {
				longer := append(append(append([]string{}, parts[:i]...), w), parts[i:]...)
				wrong(t, known, strings.Join(longer, " "))
				if i < len(parts) {
					longer = append(append(append([]string{}, parts[:i]...), w), parts[i+1:]...)
					wrong(t, known, strings.Join(longer, " "))
				}
			}
			if i < len(parts) {
				wrong(t, known, strings.Join(append(append([]string{}, parts[:i]...), parts[i+1:]...), " "))
			}
		}
	}
}

// F6.4, P6.2: all texts of up to four of the words; Show of what is read is the text again.
func TestReadAllWords(t *testing.T) {
	known := texts()
	words := []string{"strong", "device", "normal", "private", "inner", "outer", "none", "alloc", "through", "back"}
	read := 0
	var grow func(s string, left int)
	grow = func(s string, left int) {
		wrong(t, known, s)
		if m, e := attr.Read(s); e == api.OK {
			read++
			if back, e := attr.Show(m); back != s || e != api.OK {
				t.Errorf("Show(Read(%q)) = %q, %d", s, back, e)
			}
		}
		for _, w := range words {
			if left > 0 {
				grow(s+" "+w, left-1)
			}
		}
	}
	for _, w := range words {
		grow(w, 4)
	}
	if read != len(known) {
		t.Errorf("%d texts were read, there are %d", read, len(known))
	}
}
