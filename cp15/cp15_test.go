package cp15_test

import (
	"math"
	"math/rand"
	"testing"

	"atlas/api"
	"atlas/cp15"
)

const all = math.MaxUint32

var bools = []bool{false, true}

// wild: numbers that no tuple has, and some that would be a tuple's number if they were cut to fewer bits.
var wild = []int{math.MinInt, math.MinInt + 1, math.MinInt + 8, math.MinInt32, -256, -16, -8, -7, -2, -1, 16, 17, 18, 23, 24, 256, 257, 264, 1 << 16, math.MaxInt32, 1 << 32, 1<<32 + 1, 1<<32 + 2, 1<<32 + 7, 1<<32 + 8, math.MaxInt - 1, math.MaxInt}

// words: what is written in the tests that want a few of all sorts.
var words = []uint32{0, all, 1, 1 << 31, 0xFFF, 0x1000, 0xFFFFF000, 0xFF, 0x100, 0xF00, 0x55555555, 0xAAAAAAAA, 0x12345678, 0x80000FFF, 0xDEADBEEF, 0x0000FFFF, 0xFFFF0000}

// row: a register, as the chapter's first table tells it.
type row struct {
	tuple       api.Tuple
	kept, start uint32
	act         int
}

func tuple(crn, op1, crm, op2 int) api.Tuple {
	return api.Tuple{CRn: crn, Op1: op1, CRm: crm, Op2: op2}
}

// rows: by the registers' numbers.
var rows = []row{
	{tuple(1, 0, 0, 0), 0x30000001, 0, api.ActReg},
	{tuple(2, 0, 0, 0), 0xFFFFFF80, 0, api.ActReg},
	{tuple(2, 0, 0, 1), 0xFFFFC000, 0, api.ActReg},
	{tuple(2, 0, 0, 2), 0x00000037, 0, api.ActReg},
	{tuple(3, 0, 0, 0), all, 0, api.ActReg},
	{tuple(5, 0, 0, 0), 0x00001CFF, 0, api.ActNone},
	{tuple(5, 0, 0, 1), 0x0000140F, 0, api.ActNone},
	{tuple(6, 0, 0, 0), all, 0, api.ActNone},
	{tuple(6, 0, 0, 2), all, 0, api.ActNone},
	{tuple(7, 0, 4, 0), all, 0, api.ActNone},
	{tuple(10, 0, 2, 0), 0xFF0FFFFF, 0x00098AA4, api.ActReg},
	{tuple(10, 0, 2, 1), all, 0x44E048E0, api.ActReg},
	{tuple(13, 0, 0, 1), all, 0, api.ActReg},
}

// held: what all registers hold.
type held [api.Registers]uint32

// atStart: by the table.
func atStart() held {
	var h held
	for reg, r := range rows {
		h[reg] = r.start
	}
	return h
}

// look: all registers of a file, by Get.
func look(t *testing.T, f *cp15.File) held {
	t.Helper()
	var h held
	for reg := range h {
		w, e := f.Get(reg)
		if e != api.OK {
			t.Fatalf("Get(%d): %d", reg, e)
		}
		h[reg] = w
	}
	return h
}

// filled: a file whose registers were all written with a word of their own; and what they hold.
func filled(t *testing.T, seed int64) (*cp15.File, held) {
	t.Helper()
	r := rand.New(rand.NewSource(seed))
	f := cp15.New()
	var h held
	for reg := range h {
		w := r.Uint32()
		if e := f.Put(reg, w); e != api.OK {
			t.Fatalf("Put(%d): %d", reg, e)
		}
		h[reg] = w & rows[reg].kept
	}
	if got := look(t, f); got != h {
		t.Fatalf("%#x, want %#x", got, h)
	}
	return f, h
}

// tell: what a tuple is, by the chapter's tables: a register's number, or -1; is it an operation's; may a user.
func tell(n api.Tuple) (reg int, operation, user bool) {
	for reg, r := range rows {
		if r.tuple == n {
			return reg, false, false
		}
	}
	if n.Op1 != 0 {
		return -1, false, false
	}
	switch n.CRn {
	case 8:
		main := n.CRm == 3 || n.CRm == 7
		small := n.CRm == 5 || n.CRm == 6
		return -1, 0 <= n.Op2 && n.Op2 <= 2 && (main || small) || n.Op2 == 3 && main, false
	case 7:
		if n.CRm == 5 && n.Op2 == 4 || n.CRm == 10 && (n.Op2 == 4 || n.Op2 == 5) {
			return -1, true, true
		}
		return -1, n.CRm == 8 && 0 <= n.Op2 && n.Op2 <= 3, false
	}
	return -1, false, false
}

// actOf: what an operation does, by sums.
func actOf(n api.Tuple, word uint32) api.Act {
	page, asid := word-word%4096, int(word%256)
	if n.CRn == 8 {
		a := api.Act{Kind: api.ActTlbi}
		switch n.Op2 {
		case 0:
			a.Tlbi = api.Tlbi{Kind: api.TlbiAll}
		case 1:
			a.Tlbi = api.Tlbi{Kind: api.TlbiMva, Va: page, Asid: asid}
		case 2:
			a.Tlbi = api.Tlbi{Kind: api.TlbiAsid, Asid: asid}
		case 3:
			a.Tlbi = api.Tlbi{Kind: api.TlbiMvaa, Va: page}
		}
		return a
	}
	if n.CRm == 8 {
		return api.Act{Kind: api.ActAt, Va: page, User: n.Op2 == 2 || n.Op2 == 3, Store: n.Op2 == 1 || n.Op2 == 3}
	}
	return api.Act{}
}

// grid: every tuple that an instruction can say, and those around them.
func grid() []api.Tuple {
	var out []api.Tuple
	for crn := -1; crn <= 16; crn++ {
		for op1 := -1; op1 <= 8; op1++ {
			for crm := -1; crm <= 16; crm++ {
				for op2 := -1; op2 <= 8; op2++ {
					out = append(out, tuple(crn, op1, crm, op2))
				}
			}
		}
	}
	return out
}

// operations: the tuples of all of them.
func operations() []api.Tuple {
	var out []api.Tuple
	for _, n := range grid() {
		if _, ok, _ := tell(n); ok {
			out = append(out, n)
		}
	}
	return out
}

// spoilt: each tuple of the tables with one number turned into each of the wild ones, and into those next to it.
func spoilt() []api.Tuple {
	var out []api.Tuple
	of := operations()
	for _, r := range rows {
		of = append(of, r.tuple)
	}
	for _, n := range of {
		for _, w := range append([]int{n.CRn - 1, n.CRn + 1, n.CRm - 1, n.CRm + 1, n.Op2 - 1, n.Op2 + 1}, wild...) {
			out = append(out, tuple(w, n.Op1, n.CRm, n.Op2), tuple(n.CRn, w, n.CRm, n.Op2), tuple(n.CRn, n.Op1, w, n.Op2), tuple(n.CRn, n.Op1, n.CRm, w))
		}
	}
	for _, w := range wild {
		out = append(out, tuple(w, w, w, w))
	}
	return out
}

// F8.1: what every register holds at the start, by Get and by Read.
func TestNew(t *testing.T) {
	f := cp15.New()
	if got := look(t, f); got != atStart() {
		t.Errorf("%#x", got)
	}
	for reg, r := range rows {
		if w, e := f.Read(r.tuple, true); w != r.start || e != api.OK {
			t.Errorf("Read of %d: %#x, %d", reg, w, e)
		}
	}
	if c := f.Context(); c != (api.Context{PRRR: 0x00098AA4, NMRR: 0x44E048E0}) {
		t.Errorf("%+v", c)
	}
}

// The chapter's table of examples, one call behind the other.
func TestExamples(t *testing.T) {
	f := cp15.New()
	read := func(n api.Tuple, priv bool, word uint32, err api.Errno) {
		t.Helper()
		if w, e := f.Read(n, priv); w != word || e != err {
			t.Errorf("Read(%v, %v) = %#x, %d", n, priv, w, e)
		}
	}
	write := func(n api.Tuple, priv bool, word uint32, act api.Act, err api.Errno) {
		t.Helper()
		if a, e := f.Write(n, priv, word); a != act || e != err {
			t.Errorf("Write(%v, %v, %#x) = %+v, %d", n, priv, word, a, e)
		}
	}
	get := func(reg int, word uint32, err api.Errno) {
		t.Helper()
		if w, e := f.Get(reg); w != word || e != err {
			t.Errorf("Get(%d) = %#x, %d", reg, w, e)
		}
	}
	turned := api.Act{Kind: api.ActReg}
	read(tuple(1, 0, 0, 0), true, 0, api.OK)
	read(tuple(1, 0, 0, 0), false, 0, api.ErrPriv)
	read(tuple(1, 0, 0, 1), true, 0, api.ErrUndef)
	write(tuple(1, 0, 0, 0), true, all, turned, api.OK)
	get(api.RegSCTLR, 0x30000001, api.OK)
	write(tuple(2, 0, 0, 2), true, 0xFFFFFFC2, turned, api.OK)
	get(api.RegTTBCR, 2, api.OK)
	write(tuple(2, 0, 0, 0), true, 0x00013FFF, turned, api.OK)
	get(api.RegTTBR0, 0x00013F80, api.OK)
	if c := f.Context(); c.N != 2 || c.Base0 != 0x13000 {
		t.Errorf("%+v", c)
	}
	write(tuple(8, 0, 7, 1), true, 0x12345678, api.Act{Kind: api.ActTlbi, Tlbi: api.Tlbi{Kind: api.TlbiMva, Va: 0x12345000, Asid: 0x78}}, api.OK)
	write(tuple(8, 0, 5, 3), true, 0, api.Act{}, api.ErrUndef)
	read(tuple(8, 0, 7, 0), true, 0, api.ErrUndef)
	write(tuple(8, 0, 5, 3), false, 0, api.Act{}, api.ErrUndef)
	write(tuple(8, 0, 7, 0), false, 0, api.Act{}, api.ErrPriv)
	write(tuple(7, 0, 10, 5), false, 9, api.Act{}, api.OK)
	write(tuple(7, 0, 8, 3), true, 0x80000FFF, api.Act{Kind: api.ActAt, Va: 0x80000000, User: true, Store: true}, api.OK)
	write(tuple(5, 0, 0, 1), true, all, api.Act{}, api.OK)
	get(api.RegIFSR, 0x140F, api.OK)
	get(13, 0, api.ErrArg)
	if e := f.Put(-1, 0); e != api.ErrArg {
		t.Errorf("Put(-1): %d", e)
	}
	if reg, ok := cp15.Register(tuple(10, 0, 2, 1)); reg != api.RegNMRR || !ok {
		t.Errorf("Register: %d, %v", reg, ok)
	}
	if reg, ok := cp15.Register(tuple(8, 0, 7, 0)); reg != 0 || ok {
		t.Errorf("Register: %d, %v", reg, ok)
	}
}

// readWanted: F8.2, of a file that holds h.
func readWanted(n api.Tuple, priv bool, h held) (uint32, api.Errno) {
	reg, _, _ := tell(n)
	switch {
	case reg < 0:
		return 0, api.ErrUndef
	case !priv:
		return 0, api.ErrPriv
	}
	return h[reg], api.OK
}

// writeWanted: F8.2, of a file that holds h; with what it holds then.
func writeWanted(n api.Tuple, priv bool, word uint32, h held) (api.Act, api.Errno, held) {
	reg, operation, user := tell(n)
	switch {
	case reg < 0 && !operation:
		return api.Act{}, api.ErrUndef, h
	case !priv && !user:
		return api.Act{}, api.ErrPriv, h
	case operation:
		return actOf(n, word), api.OK, h
	}
	h[reg] = word & rows[reg].kept
	return api.Act{Kind: rows[reg].act}, api.OK, h
}

// P8.4, F8.2, F8.5, P8.2: every tuple, of both tables and of none, as a user and privileged, read and written; which error is found first; nothing else turns.
func TestEveryTuple(t *testing.T) {
	f, h := filled(t, 84)
	r := rand.New(rand.NewSource(4))
	for _, n := range append(grid(), spoilt()...) {
		reg, _, _ := tell(n)
		if got, ok := cp15.Register(n); ok != (reg >= 0) || ok && got != reg || !ok && got != 0 {
			t.Fatalf("Register(%v) = %d, %v", n, got, ok)
		}
		for _, priv := range bools {
			want, err := readWanted(n, priv, h)
			if w, e := f.Read(n, priv); w != want || e != err {
				t.Fatalf("Read(%v, %v) = %#x, %d, want %#x, %d", n, priv, w, e, want, err)
			}
			word := r.Uint32()
			act, err, then := writeWanted(n, priv, word, h)
			if a, e := f.Write(n, priv, word); a != act || e != err {
				t.Fatalf("Write(%v, %v, %#x) = %+v, %d, want %+v, %d", n, priv, word, a, e, act, err)
			}
			if got := look(t, f); got != then {
				t.Fatalf("behind Write(%v, %v, %#x): %#x, want %#x", n, priv, word, got, then)
			}
			h = then
		}
	}
}

// The tests' own tables have as many rows as the chapter's allow.
func TestTables(t *testing.T) {
	if n := len(operations()); n != 21 || len(rows) != api.Registers {
		t.Error(n, len(rows))
	}
}

// Errors: a user who reads an operation, barriers too, is told that there is nothing to read.
func TestReadOfOperations(t *testing.T) {
	f := cp15.New()
	for _, n := range operations() {
		for _, priv := range bools {
			if w, e := f.Read(n, priv); w != 0 || e != api.ErrUndef {
				t.Errorf("Read(%v, %v) = %#x, %d", n, priv, w, e)
			}
		}
	}
}

// A barrier does nothing, whoever asks for it, with any word.
func TestBarriers(t *testing.T) {
	f, h := filled(t, 7)
	for _, n := range []api.Tuple{tuple(7, 0, 5, 4), tuple(7, 0, 10, 4), tuple(7, 0, 10, 5)} {
		for _, priv := range bools {
			for _, w := range words {
				if a, e := f.Write(n, priv, w); a != (api.Act{}) || e != api.OK {
					t.Errorf("Write(%v, %v, %#x) = %+v, %d", n, priv, w, a, e)
				}
			}
		}
	}
	if got := look(t, f); got != h {
		t.Errorf("%#x, want %#x", got, h)
	}
}

// manyWords: words of all sorts, and each single bit.
func manyWords() []uint32 {
	out := append([]uint32{}, words...)
	for bit := range 32 {
		out = append(out, 1<<bit, ^uint32(1<<bit))
	}
	return out
}

// P8.1, P8.2, F8.2: what a register holds behind a write, the Act, the same word once more, and that no other register has turned.
func TestWriteOfRegisters(t *testing.T) {
	for reg, r := range rows {
		f, h := filled(t, int64(reg))
		for _, w := range manyWords() {
			for range 2 {
				a, e := f.Write(r.tuple, true, w)
				if a != (api.Act{Kind: r.act}) || e != api.OK {
					t.Fatalf("Write of %d, %#x: %+v, %d", reg, w, a, e)
				}
				h[reg] = w & r.kept
				if got := look(t, f); got != h {
					t.Fatalf("behind Write of %d, %#x: %#x, want %#x", reg, w, got, h)
				}
				if got, e := f.Read(r.tuple, true); got != w&r.kept || e != api.OK {
					t.Fatalf("Read of %d, %#x: %#x, %d", reg, w, got, e)
				}
			}
		}
	}
}

// F8.2: a new file's registers, written with what they hold, are written all the same.
func TestWriteOfWhatIsHeld(t *testing.T) {
	f := cp15.New()
	for reg, r := range rows {
		if a, e := f.Write(r.tuple, true, r.start); a != (api.Act{Kind: r.act}) || e != api.OK {
			t.Errorf("%d: %+v, %d", reg, a, e)
		}
	}
	if got := look(t, f); got != atStart() {
		t.Errorf("%#x", got)
	}
}

// F8.2, P8.2: the Act of every operation, and that no register has turned.
func TestOperations(t *testing.T) {
	f, h := filled(t, 21)
	for _, n := range operations() {
		for _, w := range manyWords() {
			if a, e := f.Write(n, true, w); a != actOf(n, w) || e != api.OK {
				t.Errorf("Write(%v, %#x) = %+v, %d, want %+v", n, w, a, e, actOf(n, w))
			}
		}
		if got := look(t, f); got != h {
			t.Fatalf("behind %v: %#x, want %#x", n, got, h)
		}
	}
}

// The operations, written out as the chapter's second table has them.
func TestOperationsByTheTable(t *testing.T) {
	drop := func(kind int, va uint32, asid int) api.Act {
		return api.Act{Kind: api.ActTlbi, Tlbi: api.Tlbi{Kind: kind, Va: va, Asid: asid}}
	}
	at := func(user, store bool) api.Act {
		return api.Act{Kind: api.ActAt, Va: 0xFEDCB000, User: user, Store: store}
	}
	const word = 0xFEDCBA98
	want := map[api.Tuple]api.Act{
		tuple(7, 0, 8, 0): at(false, false), tuple(7, 0, 8, 1): at(false, true), tuple(7, 0, 8, 2): at(true, false), tuple(7, 0, 8, 3): at(true, true),
		tuple(7, 0, 5, 4): {}, tuple(7, 0, 10, 4): {}, tuple(7, 0, 10, 5): {},
	}
	for _, c := range []int{3, 5, 6, 7} {
		want[tuple(8, 0, c, 0)] = drop(api.TlbiAll, 0, 0)
		want[tuple(8, 0, c, 1)] = drop(api.TlbiMva, 0xFEDCB000, 0x98)
		want[tuple(8, 0, c, 2)] = drop(api.TlbiAsid, 0, 0x98)
	}
	want[tuple(8, 0, 3, 3)] = drop(api.TlbiMvaa, 0xFEDCB000, 0)
	want[tuple(8, 0, 7, 3)] = drop(api.TlbiMvaa, 0xFEDCB000, 0)
	f := cp15.New()
	for n, act := range want {
		if a, e := f.Write(n, true, word); a != act || e != api.OK {
			t.Errorf("Write(%v) = %+v, %d, want %+v", n, a, e, act)
		}
	}
	if len(want) != 21 {
		t.Error(len(want))
	}
}

// F8.3, P8.1, P8.2.
func TestGetAndPut(t *testing.T) {
	for reg, r := range rows {
		f, h := filled(t, 100+int64(reg))
		for _, w := range manyWords() {
			if e := f.Put(reg, w); e != api.OK {
				t.Fatalf("Put(%d, %#x): %d", reg, w, e)
			}
			h[reg] = w & r.kept
			if got := look(t, f); got != h {
				t.Fatalf("behind Put(%d, %#x): %#x, want %#x", reg, w, got, h)
			}
			if got, e := f.Read(r.tuple, true); got != h[reg] || e != api.OK {
				t.Fatalf("Read of %d: %#x, %d", reg, got, e)
			}
		}
	}
}

// F8.3: numbers that are no register's.
func TestGetAndPutOfNone(t *testing.T) {
	f, h := filled(t, 3)
	c := f.Context()
	for _, reg := range append([]int{api.Registers, api.Registers + 1, api.Registers + 2}, wild...) {
		if w, e := f.Get(reg); w != 0 || e != api.ErrArg {
			t.Errorf("Get(%d) = %#x, %d", reg, w, e)
		}
		for _, w := range words {
			if e := f.Put(reg, w); e != api.ErrArg {
				t.Errorf("Put(%d, %#x): %d", reg, w, e)
			}
		}
	}
	if got := look(t, f); got != h || f.Context() != c {
		t.Errorf("%#x, want %#x", got, h)
	}
}

// contextOf: F8.4, by sums.
func contextOf(h held) api.Context {
	bit := func(w uint32, at int) bool { return w/uint32(math.Pow(2, float64(at)))%2 == 1 }
	n := h[api.RegTTBCR] % 8
	size := uint32(16384)
	for range n {
		size /= 2
	}
	return api.Context{
		On: bit(h[api.RegSCTLR], 0), TRE: bit(h[api.RegSCTLR], 28), AFE: bit(h[api.RegSCTLR], 29),
		N: int(n), PD0: bit(h[api.RegTTBCR], 4), PD1: bit(h[api.RegTTBCR], 5),
		Base0: uint64(h[api.RegTTBR0] - h[api.RegTTBR0]%size), Base1: uint64(h[api.RegTTBR1]),
		DACR: h[api.RegDACR], PRRR: h[api.RegPRRR], NMRR: h[api.RegNMRR], Asid: int(h[api.RegContext] % 256),
	}
}

// F8.4: the first table's base for every N, with all bits of RegTTBR0 1; PD0 and PD1 on and off.
func TestContextByN(t *testing.T) {
	bases := []uint64{0xFFFFC000, 0xFFFFE000, 0xFFFFF000, 0xFFFFF800, 0xFFFFFC00, 0xFFFFFE00, 0xFFFFFF00, 0xFFFFFF80}
	f := cp15.New()
	f.Write(tuple(2, 0, 0, 0), true, all)
	f.Write(tuple(2, 0, 0, 1), true, all)
	for n, base := range bases {
		for pd := range 4 {
			// 0xC8: bits of the register that are not kept.
			f.Write(tuple(2, 0, 0, 2), true, uint32(n+16*pd+0xC8))
			want := api.Context{N: n, PD0: pd&1 == 1, PD1: pd&2 == 2, Base0: base, Base1: 0xFFFFC000, PRRR: 0x00098AA4, NMRR: 0x44E048E0}
			if c := f.Context(); c != want {
				t.Errorf("N %d, PD %d: %+v", n, pd, c)
			}
		}
	}
	// What N hides of RegTTBR0 is hidden from the Context alone.
	f.Write(tuple(2, 0, 0, 2), true, 0)
	if w, _ := f.Get(api.RegTTBR0); w != 0xFFFFFF80 || f.Context().Base0 != 0xFFFFC000 {
		t.Errorf("%#x, %#x", w, f.Context().Base0)
	}
	f.Write(tuple(2, 0, 0, 2), true, 7)
	if got := f.Context().Base0; got != 0xFFFFFF80 {
		t.Errorf("%#x", got)
	}
}

// F8.4: each field by its own register, bit by bit, from all 0 on.
func TestContextByBits(t *testing.T) {
	for bit := range 32 {
		w := uint32(1) << bit
		for reg, r := range rows {
			f := cp15.New()
			f.Put(api.RegPRRR, 0)
			f.Put(api.RegNMRR, 0)
			f.Write(r.tuple, true, w)
			var want api.Context
			switch reg {
			case api.RegSCTLR:
				want.On, want.TRE, want.AFE = bit == 0, bit == 28, bit == 29
			case api.RegTTBR0:
				if bit >= 14 {
					want.Base0 = uint64(w)
				}
			case api.RegTTBR1:
				if bit >= 14 {
					want.Base1 = uint64(w)
				}
			case api.RegTTBCR:
				if bit < 3 {
					want.N = int(w)
				}
				want.PD0, want.PD1 = bit == 4, bit == 5
			case api.RegDACR:
				want.DACR = w
			case api.RegPRRR:
				if bit < 20 || bit > 23 {
					want.PRRR = w
				}
			case api.RegNMRR:
				want.NMRR = w
			case api.RegContext:
				if bit < 8 {
					want.Asid = int(w)
				}
			}
			if c := f.Context(); c != want {
				t.Errorf("register %d, bit %d: %+v, want %+v", reg, bit, c, want)
			}
		}
	}
}

// P8.3: by the eight registers alone; two files that hold the same in them have one Context.
func TestContextHangsOnEight(t *testing.T) {
	r := rand.New(rand.NewSource(83))
	ops := operations()
	for range 2000 {
		f, g := cp15.New(), cp15.New()
		for reg, row := range rows {
			w := r.Uint32()
			f.Write(row.tuple, true, w)
			if row.act == api.ActNone {
				w = r.Uint32()
			}
			g.Put(reg, w)
		}
		c := f.Context()
		if want := contextOf(look(t, f)); c != want {
			t.Fatalf("%+v, want %+v", c, want)
		}
		if g.Context() != c {
			t.Fatalf("%+v, %+v", g.Context(), c)
		}
		for reg, row := range rows {
			if row.act == api.ActReg {
				continue
			}
			f.Write(row.tuple, true, r.Uint32())
			g.Put(reg, r.Uint32())
			if f.Context() != c || g.Context() != c {
				t.Fatalf("register %d turned the Context", reg)
			}
		}
		for _, n := range ops {
			f.Write(n, true, r.Uint32())
			f.Read(n, true)
		}
		if f.Context() != c {
			t.Fatal("an operation turned the Context")
		}
	}
}

// P8.2: refused calls, each kind of them, change nothing.
func TestRefusedChangeNothing(t *testing.T) {
	f, h := filled(t, 82)
	c := f.Context()
	for _, r := range rows {
		for _, w := range words {
			if a, e := f.Write(r.tuple, false, w); a != (api.Act{}) || e != api.ErrPriv {
				t.Errorf("Write(%v, false, %#x) = %+v, %d", r.tuple, w, a, e)
			}
		}
		if w, e := f.Read(r.tuple, false); w != 0 || e != api.ErrPriv {
			t.Errorf("Read(%v, false) = %#x, %d", r.tuple, w, e)
		}
	}
	for _, n := range spoilt() {
		reg, operation, _ := tell(n)
		if reg >= 0 || operation {
			continue
		}
		for _, priv := range bools {
			if a, e := f.Write(n, priv, all); a != (api.Act{}) || e != api.ErrUndef {
				t.Errorf("Write(%v, %v) = %+v, %d", n, priv, a, e)
			}
			if w, e := f.Read(n, priv); w != 0 || e != api.ErrUndef {
				t.Errorf("Read(%v, %v) = %#x, %d", n, priv, w, e)
			}
		}
	}
	for _, n := range operations() {
		f.Read(n, true)
		f.Write(n, false, all)
	}
	if got := look(t, f); got != h || f.Context() != c {
		t.Errorf("%#x, want %#x", got, h)
	}
}

// Two files share nothing, and neither does a new one with those that were written ahead of it.
func TestTwoFiles(t *testing.T) {
	f, g := cp15.New(), cp15.New()
	for reg, r := range rows {
		f.Write(r.tuple, true, all)
		f.Put(reg, all)
		if got := look(t, g); got != atStart() {
			t.Fatalf("behind a write of %d: %#x", reg, got)
		}
	}
	if c := g.Context(); c != contextOf(atStart()) {
		t.Errorf("%+v", c)
	}
	if got := look(t, cp15.New()); got != atStart() {
		t.Errorf("%#x", got)
	}
	g.Put(api.RegDACR, 0)
	if w, _ := f.Get(api.RegDACR); w != all {
		t.Errorf("%#x", w)
	}
}

// P8.1, P8.2: any calls, one behind the other, against the tables.
func TestAnyCalls(t *testing.T) {
	r := rand.New(rand.NewSource(8))
	of := append(operations(), spoilt()[:200]...)
	for range 10 {
		for _, row := range rows {
			of = append(of, row.tuple)
		}
	}
	f, h := cp15.New(), atStart()
	for range 50000 {
		n, priv, word := of[r.Intn(len(of))], r.Intn(4) > 0, r.Uint32()
		switch r.Intn(3) {
		case 0:
			act, err, then := writeWanted(n, priv, word, h)
			if a, e := f.Write(n, priv, word); a != act || e != err {
				t.Fatalf("Write(%v, %v, %#x) = %+v, %d, want %+v, %d", n, priv, word, a, e, act, err)
			}
			h = then
		case 1:
			want, err := readWanted(n, priv, h)
			if w, e := f.Read(n, priv); w != want || e != err {
				t.Fatalf("Read(%v, %v) = %#x, %d, want %#x, %d", n, priv, w, e, want, err)
			}
		case 2:
			reg := r.Intn(api.Registers+4) - 2
			ok := 0 <= reg && reg < api.Registers
			if e := f.Put(reg, word); (e == api.OK) != ok {
				t.Fatalf("Put(%d): %d", reg, e)
			}
			if ok {
				h[reg] = word & rows[reg].kept
			}
		}
		if got := look(t, f); got != h || f.Context() != contextOf(h) {
			t.Fatalf("%#x, want %#x; %+v", got, h, f.Context())
		}
	}
}

// F8.5, the numbers of the registers as api names them.
func TestRegister(t *testing.T) {
	for n, want := range map[api.Tuple]int{
		tuple(1, 0, 0, 0): api.RegSCTLR, tuple(2, 0, 0, 0): api.RegTTBR0, tuple(2, 0, 0, 1): api.RegTTBR1, tuple(2, 0, 0, 2): api.RegTTBCR,
		tuple(3, 0, 0, 0): api.RegDACR, tuple(5, 0, 0, 0): api.RegDFSR, tuple(5, 0, 0, 1): api.RegIFSR, tuple(6, 0, 0, 0): api.RegDFAR,
		tuple(6, 0, 0, 2): api.RegIFAR, tuple(7, 0, 4, 0): api.RegPAR, tuple(10, 0, 2, 0): api.RegPRRR, tuple(10, 0, 2, 1): api.RegNMRR,
		tuple(13, 0, 0, 1): api.RegContext,
	} {
		if reg, ok := cp15.Register(n); reg != want || !ok {
			t.Errorf("Register(%v) = %d, %v", n, reg, ok)
		}
	}
	for _, n := range append(operations(), tuple(0, 0, 0, 0), tuple(-1, 0, 0, 0), tuple(1, 0, 0, 1), tuple(1, 0, 0, 2), tuple(2, 0, 0, 3), tuple(2, 1, 0, 0), tuple(6, 0, 0, 1), tuple(13, 0, 0, 0)) {
		if reg, ok := cp15.Register(n); reg != 0 || ok {
			t.Errorf("Register(%v) = %d, %v", n, reg, ok)
		}
	}
}
