package rights_test

import (
	"math"
	"math/rand"
	"strconv"
	"strings"
	"testing"

	"atlas/api"
	"atlas/desc"
	"atlas/rights"
)

// wild: numbers that no AP, kind, size, level or domain is.
var wild = []int{math.MinInt, math.MinInt + 1, math.MinInt32, -256, -16, -8, -2, -1, 16, 17, 32, 255, 256, 257, 1 << 16, math.MaxInt32, 1 << 32, 1<<32 + 1, 1<<32 + 3, math.MaxInt - 1, math.MaxInt}

// kinds: those of an access, and numbers that are none.
var kinds = append([]int{api.Fetch, api.Load, api.Store, 0, 4, 5, -3}, wild...)

var realKinds = []int{api.Fetch, api.Load, api.Store}

var bools = []bool{false, true}

// table: the chapter's, column by column: privileged, user; "" is nothing.
var (
	offPriv = [8]string{"", "rw", "rw", "rw", "", "r", "r", "r"}
	offUser = [8]string{"", "", "r", "rw", "", "", "r", "r"}
	onPriv  = [4]string{"rw", "rw", "r", "r"}
	onUser  = [4]string{"", "rw", "", "r"}
)

// allowsModel: P701, from the table's columns.
func allowsModel(l api.Leaf, afe, priv bool, kind int) bool {
	if l.AP < 0 || l.AP > 7 {
		return false
	}
	var cell string
	switch {
	case afe && priv:
		cell = onPriv[l.AP/2]
	case afe:
		cell = onUser[l.AP/2]
	case priv:
		cell = offPriv[l.AP]
	default:
		cell = offUser[l.AP]
	}
	switch kind {
	case api.Load:
		return strings.Contains(cell, "r")
	case api.Fetch:
		return strings.Contains(cell, "r") && !l.XN
	case api.Store:
		return strings.Contains(cell, "w")
	}
	return false
}

func TestAllowsExamples(t *testing.T) {
	for _, c := range []struct {
		l         api.Leaf
		afe, priv bool
		kind      int
		want      bool
	}{
		{api.Leaf{AP: 2}, false, false, api.Load, true},
		{api.Leaf{AP: 2}, false, false, api.Store, false},
		{api.Leaf{AP: 2}, false, true, api.Store, true},
		{api.Leaf{AP: 2}, false, true, api.Load, true},
		{api.Leaf{AP: 2, XN: true}, false, true, api.Fetch, false},
		{api.Leaf{AP: 2}, false, true, api.Fetch, true},
		{api.Leaf{AP: 5}, true, true, api.Store, false},
		{api.Leaf{AP: 5}, true, true, api.Load, true},
		{api.Leaf{AP: 3}, false, false, 4, false},
	} {
		if got := rights.Allows(c.l, c.afe, c.priv, c.kind); got != c.want {
			t.Errorf("Allows(%+v, %v, %v, %d) = %v", c.l, c.afe, c.priv, c.kind, got)
		}
	}
}

// P701: every AP, side, flag and kind; what the leaf says beside AP and XN does not count.
func TestAllowsIsTheTable(t *testing.T) {
	aps := append([]int{0, 1, 2, 3, 4, 5, 6, 7, 8, 9}, wild...)
	for _, ap := range aps {
		for _, kind := range kinds {
			for n := 0; n < 16; n++ {
				l := api.Leaf{AP: ap, XN: n&1 == 1, NG: n&2 == 2, Bits: uint32(n * 17)}
				afe, priv := n&4 == 4, n&8 == 8
				if got, want := rights.Allows(l, afe, priv, kind), allowsModel(l, afe, priv, kind); got != want {
					t.Fatalf("Allows(%+v, %v, %v, %d) = %v, want %v", l, afe, priv, kind, got, want)
				}
			}
		}
	}
}

// P702.
func TestLevel(t *testing.T) {
	for size, want := range map[int]int{api.Small: 2, api.Large: 2, api.Section: 1, api.Super: 1, 0: 0, 5: 0, 6: 0} {
		if got := rights.Level(size); got != want {
			t.Errorf("Level(%d) = %d, want %d", size, got, want)
		}
	}
	for _, size := range wild {
		if got := rights.Level(size); got != 0 {
			t.Errorf("Level(%d) = %d", size, got)
		}
	}
}

func TestCheckExamples(t *testing.T) {
	small := api.Trans{Size: api.Small, Domain: 1, Leaf: api.Leaf{AP: 1}}
	barred := func(kind int) api.Fault { return api.Fault{Kind: kind, Level: 2, Domain: 1} }
	for _, c := range []struct {
		ap, kind int
		xn, afe  bool
		dacr     uint32
		want     api.Fault
	}{
		{1, api.Load, false, false, 4, barred(api.FPerm)},
		{1, api.Load, false, false, 0, barred(api.FDomain)},
		{1, api.Load, false, false, 12, api.Fault{}},
		{1, api.Fetch, false, false, 12, api.Fault{}},
		{1, api.Fetch, true, false, 12, api.Fault{}},
		{2, api.Load, false, true, 4, barred(api.FAccess)},
		{2, api.Load, false, true, 0, barred(api.FAccess)},
		{2, api.Load, false, true, 12, barred(api.FAccess)},
		{2, api.Load, false, false, 4, api.Fault{}},
	} {
		b := small
		b.Leaf.AP, b.Leaf.XN = c.ap, c.xn
		if got := rights.Check(b, api.Context{On: true, AFE: c.afe, DACR: c.dacr}, false, c.kind); got != c.want {
			t.Errorf("%+v: got %+v", c, got)
		}
	}
}

// rightBlocks: one of each size, at edges of what is right.
func rightBlocks() []api.Trans {
	leaf := api.Leaf{AP: 3, Bits: 63, NG: true}
	return []api.Trans{
		{Size: api.Small, VA: 0xfffff000, PA: 0xfffff000, Domain: 15, Leaf: leaf},
		{Size: api.Small, Domain: 0, Leaf: leaf},
		{Size: api.Large, VA: 0xffff0000, PA: 0xffff0000, Domain: 7, Leaf: leaf},
		{Size: api.Section, VA: 0xfff00000, PA: 0xfff00000, Domain: 9, Leaf: leaf},
		{Size: api.Super, VA: 0xff000000, PA: 0xffff000000, Leaf: leaf},
	}
}

// sizeLevel: P702, written out for the tests of Check.
func sizeLevel(size int) int {
	return []int{0, 2, 2, 1, 1}[size]
}

// checkModel: P703, sentence by sentence, of a context that is On and a right block.
func checkModel(b api.Trans, c api.Context, priv bool, kind int) api.Fault {
	f := api.Fault{Level: sizeLevel(b.Size), Domain: b.Domain}
	low, high := 1<<(2*b.Domain), 1<<(2*b.Domain+1)
	field := 0
	if int(c.DACR)&low != 0 {
		field++
	}
	if int(c.DACR)&high != 0 {
		field += 2
	}
	switch {
	case c.AFE && b.Leaf.AP%2 == 0:
		f.Kind = api.FAccess
	case field == 0 || field == 2:
		f.Kind = api.FDomain
	case field == 3:
		return api.Fault{}
	case !allowsModel(b.Leaf, c.AFE, priv, kind):
		f.Kind = api.FPerm
	default:
		return api.Fault{}
	}
	return f
}

// P703: every domain and each of its fields, while all other fields say something else; every AP, flag, side and kind.
func TestCheckByFields(t *testing.T) {
	for _, b := range rightBlocks() {
		for domain := 0; domain < 16; domain++ {
			b.Domain = domain
			if b.Size == api.Super && domain > 0 {
				break
			}
			for n := uint32(0); n < 16; n++ {
				mine, others := n&3, n>>2
				dacr := others*0x55555555&^(3<<(2*domain)) | mine<<(2*domain)
				checkAll(t, b, dacr)
			}
		}
	}
}

// checkAll: a block against all that is asked beside its domain.
func checkAll(t *testing.T, b api.Trans, dacr uint32) {
	t.Helper()
	for n := 0; n < 64; n++ {
		b.Leaf.AP, b.Leaf.XN = n&7, n&8 == 8
		c := api.Context{On: true, AFE: n&16 == 16, DACR: dacr}
		priv := n&32 == 32
		for _, kind := range kinds {
			if got, want := rights.Check(b, c, priv, kind), checkModel(b, c, priv, kind); got != want {
				t.Fatalf("Check(%+v, %+v, %v, %d) = %+v, want %+v", b, c, priv, kind, got, want)
			}
		}
	}
}

// P703: what bars where two things would: the access flag ahead of the domain, that ahead of the permission, and a field of 3 ahead of AP, XN and the kind.
func TestCheckOrder(t *testing.T) {
	for _, b := range rightBlocks() {
		b.Leaf = api.Leaf{AP: 0, XN: true}
		for domain, at := range map[uint32]int{0: api.FDomain, 1: api.FPerm, 2: api.FDomain, 3: api.FNone} {
			for _, kind := range kinds {
				want := api.Fault{Kind: at, Level: sizeLevel(b.Size), Domain: b.Domain}
				if at == api.FNone {
					want = api.Fault{}
				}
				c := api.Context{On: true, DACR: domain << (2 * b.Domain)}
				if got := rights.Check(b, c, false, kind); got != want {
					t.Errorf("field %d, kind %d: %+v", domain, kind, got)
				}
				c.AFE = true
				want = api.Fault{Kind: api.FAccess, Level: sizeLevel(b.Size), Domain: b.Domain}
				if got := rights.Check(b, c, true, kind); got != want {
					t.Errorf("field %d, kind %d, no access flag: %+v", domain, kind, got)
				}
			}
		}
	}
}

// spoilt: the translations that one field alone keeps from being right.
func spoilt(b api.Trans) []api.Trans {
	var out []api.Trans
	with := func(change func(*api.Trans)) {
		c := b
		change(&c)
		out = append(out, c)
	}
	for _, n := range append([]int{0, 5}, wild...) {
		with(func(c *api.Trans) { c.Size = n })
	}
	for _, n := range wild {
		with(func(c *api.Trans) { c.Domain = n })
		with(func(c *api.Trans) { c.Leaf.AP = n })
	}
	with(func(c *api.Trans) { c.Leaf.AP = 8 })
	with(func(c *api.Trans) { c.VA |= 1 })
	with(func(c *api.Trans) { c.VA |= uint32(desc.Bytes(b.Size) / 2) })
	with(func(c *api.Trans) { c.PA |= 1 })
	with(func(c *api.Trans) { c.PA |= desc.Bytes(b.Size) / 2 })
	with(func(c *api.Trans) { c.PA |= 1 << 40 })
	with(func(c *api.Trans) { c.PA |= 1 << 63 })
	with(func(c *api.Trans) { c.Leaf.Bits = 64 })
	with(func(c *api.Trans) { c.Leaf.Bits = math.MaxUint32 })
	if b.Size == api.Super {
		with(func(c *api.Trans) { c.Domain = 1 })
		with(func(c *api.Trans) { c.Domain = 15 })
	} else {
		with(func(c *api.Trans) { c.PA |= 1 << 32 })
	}
	return out
}

// P703: nothing is barred where the context is not On, or the block is not right, though all would bar it.
func TestCheckOfNothing(t *testing.T) {
	for _, b := range rightBlocks() {
		b.Leaf.AP = 0
		all := api.Fault{Kind: api.FDomain, Level: sizeLevel(b.Size), Domain: b.Domain}
		if got := rights.Check(b, api.Context{On: true}, false, api.Load); got != all {
			t.Fatalf("%+v: %+v", b, got)
		}
		for _, c := range []api.Context{{}, {AFE: true}, {TRE: true, N: 7, DACR: 0x55555555}, {DACR: 0xaaaaaaaa}} {
			for _, kind := range kinds {
				if got := rights.Check(b, c, false, kind); got != (api.Fault{}) {
					t.Errorf("off, %+v, %d: %+v", b, kind, got)
				}
			}
		}
		for _, bad := range spoilt(b) {
			for _, c := range []api.Context{{On: true}, {On: true, AFE: true}, {On: true, DACR: 0x55555555}, {On: true, DACR: 0xffffffff}} {
				for _, kind := range kinds {
					if got := rights.Check(bad, c, false, kind); got != (api.Fault{}) {
						t.Errorf("not right, %+v, %+v, %d: %+v", bad, c, kind, got)
					}
				}
			}
		}
	}
}

// P703: a context's other fields do not count.
func TestCheckLooksAtNothingElse(t *testing.T) {
	r := rand.New(rand.NewSource(7))
	blocks := rightBlocks()
	for range 20000 {
		b := blocks[r.Intn(len(blocks))]
		b.Leaf = api.Leaf{AP: r.Intn(8), Bits: uint32(r.Intn(64)), NG: r.Intn(2) == 0, XN: r.Intn(2) == 0}
		c := api.Context{
			On: true, TRE: r.Intn(2) == 0, AFE: r.Intn(2) == 0, N: r.Intn(20) - 5, PD0: r.Intn(2) == 0, PD1: r.Intn(2) == 0,
			Base0: r.Uint64(), Base1: r.Uint64(), DACR: r.Uint32(), PRRR: r.Uint32(), NMRR: r.Uint32(), Asid: r.Intn(600) - 300,
		}
		priv, kind := r.Intn(2) == 0, kinds[r.Intn(len(kinds))]
		if got, want := rights.Check(b, c, priv, kind), checkModel(b, c, priv, kind); got != want {
			t.Fatalf("Check(%+v, %+v, %v, %d) = %+v, want %+v", b, c, priv, kind, got, want)
		}
	}
}

// told: a right fault with its code and its text, from the chapter's tables.
type told struct {
	f    api.Fault
	code uint32
	text string
}

// rightFaults: all of them.
func rightFaults() []told {
	out := []told{
		{api.Fault{Kind: api.FAlign}, 1, "alignment"},
		{api.Fault{Kind: api.FWalk1}, 12, "walk 1"},
		{api.Fault{Kind: api.FTrans1}, 5, "translation 1"},
		{api.Fault{Kind: api.FBus}, 8, "bus"},
		{api.Fault{Kind: api.FConflict}, 16, "conflict"},
	}
	for d := 0; d < 16; d++ {
		of := " domain " + strconv.Itoa(d)
		out = append(out,
			told{api.Fault{Kind: api.FWalk2, Domain: d}, 14, "walk 2" + of},
			told{api.Fault{Kind: api.FTrans2, Domain: d}, 7, "translation 2" + of},
			told{api.Fault{Kind: api.FAccess, Level: 1, Domain: d}, 3, "access 1" + of},
			told{api.Fault{Kind: api.FAccess, Level: 2, Domain: d}, 6, "access 2" + of},
			told{api.Fault{Kind: api.FDomain, Level: 1, Domain: d}, 9, "domain 1" + of},
			told{api.Fault{Kind: api.FDomain, Level: 2, Domain: d}, 11, "domain 2" + of},
			told{api.Fault{Kind: api.FPerm, Level: 1, Domain: d}, 13, "permission 1" + of},
			told{api.Fault{Kind: api.FPerm, Level: 2, Domain: d}, 15, "permission 2" + of},
		)
	}
	return out
}

// wordOf: P704, by sums.
func wordOf(f told, write bool) uint32 {
	w := f.code%16 + f.code/16*1024 + uint32(f.f.Domain)*16
	if write {
		w += 2048
	}
	return w
}

// written: what a status word tells.
type written struct {
	f     api.Fault
	write bool
}

// allWords: every word that Status makes, with what it was made of.
func allWords(t *testing.T) map[uint32]written {
	out := map[uint32]written{}
	for _, f := range rightFaults() {
		for _, write := range bools {
			w := wordOf(f, write)
			if was, ok := out[w]; ok {
				t.Fatalf("%#x: %+v and %+v", w, was, f)
			}
			out[w] = written{f.f, write}
		}
	}
	return out
}

func TestStatusExamples(t *testing.T) {
	for _, c := range []struct {
		f     api.Fault
		write bool
		w     uint32
		e     api.Errno
	}{
		{api.Fault{Kind: api.FPerm, Level: 2, Domain: 1}, true, 0x81f, api.OK},
		{api.Fault{Kind: api.FConflict}, false, 0x400, api.OK},
		{api.Fault{Kind: api.FTrans1}, false, 5, api.OK},
		{api.Fault{Kind: api.FTrans2, Domain: 3}, false, 0x37, api.OK},
		{api.Fault{}, false, 0, api.ErrStatus},
		{api.Fault{}, true, 0, api.ErrStatus},
	} {
		if w, e := rights.Status(c.f, c.write); w != c.w || e != c.e {
			t.Errorf("Status(%+v, %v) = %#x, %d", c.f, c.write, w, e)
		}
	}
}

// P704, and P705's way back.
func TestStatusThereAndBack(t *testing.T) {
	for _, f := range rightFaults() {
		for _, write := range bools {
			w, e := rights.Status(f.f, write)
			if w != wordOf(f, write) || e != api.OK {
				t.Errorf("Status(%+v, %v) = %#x, %d", f.f, write, w, e)
			}
			back, wrote, e := rights.Fault(w)
			if back != f.f || wrote != write || e != api.OK {
				t.Errorf("Fault(%#x) = %+v, %v, %d", w, back, wrote, e)
			}
		}
	}
}

// isRightFault: by the list of all of them.
func isRightFault(f api.Fault) bool {
	for _, r := range rightFaults() {
		if r.f == f {
			return true
		}
	}
	return false
}

// near: faults around the right ones: all kinds and levels near theirs, domains at their edges, and each right fault with one field of any number.
func near() []api.Fault {
	var out []api.Fault
	for kind := -2; kind <= 13; kind++ {
		for level := -1; level <= 4; level++ {
			for domain := -1; domain <= 17; domain++ {
				out = append(out, api.Fault{Kind: kind, Level: level, Domain: domain})
			}
		}
	}
	for _, f := range append(rightFaults(), told{}) {
		for _, n := range wild {
			kind, level, domain := f.f, f.f, f.f
			kind.Kind, level.Level, domain.Domain = n, n, n
			out = append(out, kind, level, domain)
		}
	}
	return out
}

// P704: a fault that is not right has no word.
func TestStatusOfWhatIsNotRight(t *testing.T) {
	for _, f := range near() {
		want := api.ErrStatus
		if isRightFault(f) {
			want = api.OK
		}
		for _, write := range bools {
			w, e := rights.Status(f, write)
			if e != want || e != api.OK && w != 0 {
				t.Errorf("Status(%+v, %v) = %#x, %d", f, write, w, e)
			}
		}
	}
}

func TestFaultExamples(t *testing.T) {
	for _, c := range []struct {
		w     uint32
		f     api.Fault
		write bool
		e     api.Errno
	}{
		{0x37, api.Fault{Kind: api.FTrans2, Domain: 3}, false, api.OK},
		{0x35, api.Fault{}, false, api.ErrStatus},
		{0x1005, api.Fault{}, false, api.ErrStatus},
		{0x805, api.Fault{Kind: api.FTrans1}, true, api.OK},
		{0, api.Fault{}, false, api.ErrStatus},
		{math.MaxUint32, api.Fault{}, false, api.ErrStatus},
	} {
		if f, write, e := rights.Fault(c.w); f != c.f || write != c.write || e != c.e {
			t.Errorf("Fault(%#x) = %+v, %v, %d", c.w, f, write, e)
		}
	}
}

// P705: every word of the lowest 16 bits, and words with bits above them; those that Status makes and no other.
func TestFaultOfEveryWord(t *testing.T) {
	words := allWords(t)
	ask := func(w uint32) {
		t.Helper()
		want, ok := words[w]
		e := api.OK
		if !ok {
			e = api.ErrStatus
		}
		if f, write, got := rights.Fault(w); f != want.f || write != want.write || got != e {
			t.Errorf("Fault(%#x) = %+v, %v, %d", w, f, write, got)
		}
	}
	for w := uint32(0); w < 1<<16; w++ {
		ask(w)
		ask(w | 1<<16)
		ask(w | 1<<31)
		ask(^w)
	}
	for w := range words {
		for bit := range 32 {
			ask(w ^ 1<<bit)
		}
	}
}

func TestLeafExamples(t *testing.T) {
	for _, c := range []struct {
		r api.Rights
		l api.Leaf
		e api.Errno
	}{
		{api.Rights{}, api.Leaf{AP: 1, Bits: 14, NG: true, XN: true}, api.OK},
		{api.Rights{Read: true}, api.Leaf{AP: 2, Bits: 14, NG: true, XN: true}, api.OK},
		{api.Rights{Read: true, Exec: true}, api.Leaf{AP: 2, Bits: 14, NG: true}, api.OK},
		{api.Rights{Read: true, Write: true}, api.Leaf{AP: 3, Bits: 14, NG: true, XN: true}, api.OK},
		{api.Rights{Read: true, Write: true, Exec: true}, api.Leaf{AP: 3, Bits: 14, NG: true}, api.OK},
		{api.Rights{Write: true}, api.Leaf{}, api.ErrRights},
		{api.Rights{Exec: true}, api.Leaf{}, api.ErrRights},
		{api.Rights{Write: true, Exec: true}, api.Leaf{}, api.ErrRights},
	} {
		l, e := rights.Leaf(c.r)
		if l != c.l || e != c.e {
			t.Errorf("Leaf(%+v) = %+v, %d", c.r, l, e)
		}
		if e == api.OK && rights.Rights(l) != c.r {
			t.Errorf("Rights(Leaf(%+v)) = %+v", c.r, rights.Rights(l))
		}
	}
}

// P706: by the table's third column.
func TestRights(t *testing.T) {
	if r := rights.Rights(api.Leaf{AP: 7, XN: true}); r != (api.Rights{Read: true}) {
		t.Error(r)
	}
	for _, ap := range append([]int{0, 1, 2, 3, 4, 5, 6, 7, 8, 9}, wild...) {
		for n := 0; n < 4; n++ {
			l := api.Leaf{AP: ap, XN: n&1 == 1, NG: n&2 == 2, Bits: uint32(n) * math.MaxUint32 / 3}
			var want api.Rights
			if 0 <= ap && ap <= 7 {
				want.Read = strings.Contains(offUser[ap], "r")
				want.Write = strings.Contains(offUser[ap], "w")
				want.Exec = want.Read && !l.XN
			}
			if got := rights.Rights(l); got != want {
				t.Errorf("Rights(%+v) = %+v, want %+v", l, got, want)
			}
		}
	}
}

// P707.
func TestText(t *testing.T) {
	if s := rights.Text(api.Fault{}); s != "none" {
		t.Errorf("%q", s)
	}
	seen := map[string]api.Fault{"none": {}, "": {}}
	for _, f := range rightFaults() {
		s := rights.Text(f.f)
		if s != f.text {
			t.Errorf("Text(%+v) = %q, want %q", f.f, s, f.text)
		}
		if other, ok := seen[s]; ok {
			t.Errorf("%q: %+v and %+v", s, other, f.f)
		}
		seen[s] = f.f
	}
	for _, f := range near() {
		if s := rights.Text(f); s != "" && f != (api.Fault{}) && !isRightFault(f) {
			t.Errorf("Text(%+v) = %q", f, s)
		}
	}
}

// P708: whatever a user may do in a client domain, a privileged access may do too.
func TestPrivilegedMayWhatAUserMay(t *testing.T) {
	for _, b := range rightBlocks() {
		for n := range 8 * 64 * 8 {
			b.Leaf = api.Leaf{AP: n & 7, Bits: uint32(n >> 3 & 63), NG: n>>9&1 == 1, XN: n>>10&1 == 1}
			c := api.Context{On: true, AFE: n>>11&1 == 1, DACR: 0xaaaaaaaa&^(3<<(2*b.Domain)) | 1<<(2*b.Domain)}
			for _, kind := range kinds {
				user, priv := rights.Check(b, c, false, kind), rights.Check(b, c, true, kind)
				if user.Kind == api.FNone && priv.Kind != api.FNone {
					t.Fatalf("%+v, %+v, %d: %+v", b, c, kind, priv)
				}
				if rights.Allows(b.Leaf, c.AFE, false, kind) && !rights.Allows(b.Leaf, c.AFE, true, kind) {
					t.Fatalf("%+v, %d: a user alone", b.Leaf, kind)
				}
			}
		}
	}
}

// allRights: the eight.
func allRights() []api.Rights {
	var out []api.Rights
	for n := range 8 {
		out = append(out, api.Rights{Read: n&1 == 1, Write: n&2 == 2, Exec: n&4 == 4})
	}
	return out
}

// within: has more all rights that less has?
func within(less, more api.Rights) bool {
	return (more.Read || !less.Read) && (more.Write || !less.Write) && (more.Exec || !less.Exec)
}

// P708: with more rights nothing is barred that was not.
func TestMoreRightsBarNothingMore(t *testing.T) {
	pairs := 0
	for _, less := range allRights() {
		for _, more := range allRights() {
			a, e := rights.Leaf(less)
			b, f := rights.Leaf(more)
			if e != api.OK || f != api.OK || !within(less, more) {
				continue
			}
			pairs++
			for _, kind := range kinds {
				for _, priv := range bools {
					if rights.Allows(a, false, priv, kind) && !rights.Allows(b, false, priv, kind) {
						t.Errorf("%+v may, %+v may not: %d, %v", less, more, kind, priv)
					}
				}
			}
		}
	}
	if pairs != 5+4+2+1+1+1 {
		t.Error(pairs)
	}
}

// P706: with these leaves a user may just what the rights say, and a privileged access may read and write too.
func TestLeafGivesItsRights(t *testing.T) {
	for _, r := range allRights() {
		l, e := rights.Leaf(r)
		if e != api.OK {
			continue
		}
		b := api.Trans{Size: api.Small, Domain: 1, Leaf: l}
		for i, may := range []bool{r.Exec, r.Read, r.Write} {
			got := rights.Check(b, api.Context{On: true, DACR: 4}, false, realKinds[i])
			if (got.Kind == api.FNone) != may {
				t.Errorf("%+v, %d: %+v", r, realKinds[i], got)
			}
		}
		for _, kind := range []int{api.Load, api.Store} {
			if got := rights.Check(b, api.Context{On: true, DACR: 4}, true, kind); got != (api.Fault{}) {
				t.Errorf("%+v, %d, privileged: %+v", r, kind, got)
			}
		}
	}
}
