package isa_test

import (
	"math"
	"math/rand"
	"testing"

	"atlas/api"
	"atlas/isa"
)

// wild: numbers that no field of an instruction has, and those that would be one, if only their lowest bits counted.
var wild = []int{math.MinInt, math.MinInt + 1, math.MinInt + 14, -1 << 32, -1<<32 + 1, math.MinInt32, -256, -32, -17, -16, -15, -8, -4, -3, -2, -1, 53, 54, 63, 64, 65, 128, 255, 256, 1 << 16, math.MaxInt32, 1 << 31, 1 << 32, 1<<32 + 1, 1<<32 + 2, 1<<32 + 14, 1<<32 + 15, 1<<32 + 31, math.MaxInt - 1, math.MaxInt}

// numbers: wild ones, and all small ones.
func numbers() []int {
	all := append([]int{}, wild...)
	for n := range 53 {
		all = append(all, n)
	}
	return all
}

// refused: it is not right, so nothing is said of it.
func refused(t *testing.T, i api.Ins) {
	t.Helper()
	if w, e := isa.Encode(i); w != 0 || e != api.ErrIns {
		t.Errorf("Encode(%+v) = %#x, %d", i, w, e)
	}
	if isa.Right(i) || isa.Reads(i) != 0 || isa.Writes(i) != 0 {
		t.Errorf("%+v: Right %v, Reads %#x, Writes %#x", i, isa.Right(i), isa.Reads(i), isa.Writes(i))
	}
}

// Fields that are too great, below 0, or not of the row, told by hand.
func TestEncodeOfWhatIsNotRight(t *testing.T) {
	add := api.Ins{Cond: 14, Op: api.OpADD, Form: api.FormReg, Rd: 1, Rn: 2, Rm: 3}
	mov := api.Ins{Cond: 14, Op: api.OpMOV, Form: api.FormImm, Rd: 1, Imm: 1}
	cmp := api.Ins{Cond: 14, Op: api.OpCMP, S: true, Form: api.FormRsr, Rn: 2, Rm: 3, Rs: 4}
	ldr := api.Ins{Cond: 14, Op: api.OpLDR, Form: api.FormImm, Rd: 1, Rn: 2, Pre: true}
	ldrh := api.Ins{Cond: 14, Op: api.OpLDRH, Form: api.FormReg, Rd: 1, Rn: 2, Rm: 3, Pre: true}
	strh := api.Ins{Cond: 14, Op: api.OpSTRH, Form: api.FormImm, Rd: 1, Rn: 2, Imm: 255, Pre: true}
	ldm := api.Ins{Cond: 14, Op: api.OpLDM, Rn: 2, List: 1}
	mcr := api.Ins{Cond: 14, Op: api.OpMCR, Rd: 1, Tuple: api.Tuple{CRn: 15, Op1: 7, CRm: 15, Op2: 7}}
	msr := api.Ins{Cond: 14, Op: api.OpMSR, Form: api.FormImm, Amount: 15, Imm: 0xFFF}
	mul := api.Ins{Cond: 14, Op: api.OpMUL, Rd: 1, Rs: 2, Rm: 3}
	movw := api.Ins{Cond: 14, Op: api.OpMOVW, Rd: 1, Imm: 0xFFFF}
	svc := api.Ins{Cond: 14, Op: api.OpSVC, Imm: 0xFFFFFF}
	bkpt := api.Ins{Cond: 14, Op: api.OpBKPT, Imm: 0xFFFF}
	uxtb := api.Ins{Cond: 14, Op: api.OpUXTB, Rd: 1, Rm: 2, Amount: 3}
	nop := api.Ins{Cond: 14, Op: api.OpNOP}
	for _, i := range []api.Ins{add, mov, cmp, ldr, ldrh, strh, ldm, mcr, msr, mul, movw, svc, bkpt, uxtb, nop} {
		if !isa.Right(i) {
			t.Errorf("Right(%+v) = false", i)
		}
	}
	spoil := func(i api.Ins, change func(i *api.Ins)) {
		t.Helper()
		change(&i)
		refused(t, i)
		checkIns(t, i)
	}
	refused(t, api.Ins{})
	refused(t, api.Ins{Cond: 14, Op: api.OpMOV, Form: api.FormImm, Imm: 4096}) // the chapter's
	spoil(mov, func(i *api.Ins) { i.Imm = math.MaxUint32 })
	spoil(mov, func(i *api.Ins) { i.Imm = 0x1001 })
	spoil(mov, func(i *api.Ins) { i.Rn = 1 })
	spoil(mov, func(i *api.Ins) { i.Rm = 1 })
	spoil(mov, func(i *api.Ins) { i.Rs = 1 })
	spoil(mov, func(i *api.Ins) { i.Ra = 1 })
	spoil(mov, func(i *api.Ins) { i.Shift = 1 })
	spoil(mov, func(i *api.Ins) { i.Amount = 1 })
	spoil(mov, func(i *api.Ins) { i.Cond = 15 })
	spoil(mov, func(i *api.Ins) { i.Cond = -2 })
	spoil(mov, func(i *api.Ins) { i.Cond = 30 })
	spoil(add, func(i *api.Ins) { i.Rd = 16 })
	spoil(add, func(i *api.Ins) { i.Rn = -1 })
	spoil(add, func(i *api.Ins) { i.Rm = 16 })
	spoil(add, func(i *api.Ins) { i.Rm = 1<<32 + 3 })
	spoil(add, func(i *api.Ins) { i.Shift = api.ShRRX })
	spoil(add, func(i *api.Ins) { i.Shift = -1 })
	spoil(add, func(i *api.Ins) { i.Amount = 32 })
	spoil(add, func(i *api.Ins) { i.Amount = -1 })
	spoil(add, func(i *api.Ins) { i.Imm = 1 })
	spoil(add, func(i *api.Ins) { i.Pre = true })
	spoil(add, func(i *api.Ins) { i.Up = true })
	spoil(add, func(i *api.Ins) { i.Write = true })
	spoil(add, func(i *api.Ins) { i.List = 1 })
	spoil(add, func(i *api.Ins) { i.Tuple.CRn = 1 })
	spoil(add, func(i *api.Ins) { i.Form = 0 })
	spoil(add, func(i *api.Ins) { i.Form = 4 })
	spoil(add, func(i *api.Ins) { i.Form = -2 })
	spoil(add, func(i *api.Ins) { i.Form = 256 + api.FormReg })
	spoil(add, func(i *api.Ins) { i.Op = 0 })
	spoil(add, func(i *api.Ins) { i.Op = -5 })
	spoil(add, func(i *api.Ins) { i.Op = 256 + api.OpADD })
	spoil(nop, func(i *api.Ins) { i.Op = api.OpLast + 1 })
	spoil(nop, func(i *api.Ins) { i.Form = api.FormImm })
	spoil(nop, func(i *api.Ins) { i.S = true })
	spoil(nop, func(i *api.Ins) { i.Imm = 3 })
	spoil(cmp, func(i *api.Ins) { i.S = false })
	spoil(cmp, func(i *api.Ins) { i.Rd = 1 })
	spoil(cmp, func(i *api.Ins) { i.Amount = 1 })
	spoil(ldr, func(i *api.Ins) { i.Imm = 4096 })
	spoil(ldr, func(i *api.Ins) { i.S = true })
	spoil(ldr, func(i *api.Ins) { i.Form = api.FormRsr })
	spoil(ldr, func(i *api.Ins) { i.Form = 0 })
	spoil(ldrh, func(i *api.Ins) { i.Shift = 1 })
	spoil(ldrh, func(i *api.Ins) { i.Amount = 1 })
	spoil(ldrh, func(i *api.Ins) { i.Imm = 1 })
	spoil(strh, func(i *api.Ins) { i.Imm = 256 })
	spoil(strh, func(i *api.Ins) { i.Rm = 1 })
	spoil(ldm, func(i *api.Ins) { i.Rd = 1 })
	spoil(ldm, func(i *api.Ins) { i.Form = api.FormImm })
	spoil(ldm, func(i *api.Ins) { i.S = true })
	spoil(mcr, func(i *api.Ins) { i.Tuple.CRn = 16 })
	spoil(mcr, func(i *api.Ins) { i.Tuple.Op1 = 8 })
	spoil(mcr, func(i *api.Ins) { i.Tuple.CRm = 16 })
	spoil(mcr, func(i *api.Ins) { i.Tuple.Op2 = 8 })
	spoil(mcr, func(i *api.Ins) { i.Tuple.Op2 = -1 })
	spoil(mcr, func(i *api.Ins) { i.Rn = 1 })
	spoil(msr, func(i *api.Ins) { i.Amount = 16 })
	spoil(msr, func(i *api.Ins) { i.Amount = -1 })
	spoil(msr, func(i *api.Ins) { i.Imm = 0x1000 })
	spoil(msr, func(i *api.Ins) { i.Form = 0 })
	spoil(msr, func(i *api.Ins) { i.Amount, i.Imm = 0, 0 }) // that word says NOP
	spoil(msr, func(i *api.Ins) { i.Amount, i.Imm = 0, 3 }) // that word says WFI
	spoil(mul, func(i *api.Ins) { i.Ra = 1 })
	spoil(mul, func(i *api.Ins) { i.Rn = 1 })
	spoil(mul, func(i *api.Ins) { i.Form = api.FormReg })
	spoil(movw, func(i *api.Ins) { i.Imm = 0x10000 })
	spoil(movw, func(i *api.Ins) { i.Form = api.FormImm })
	spoil(movw, func(i *api.Ins) { i.S = true })
	spoil(svc, func(i *api.Ins) { i.Imm = 0x1000000 })
	spoil(bkpt, func(i *api.Ins) { i.Imm = 0x10000 })
	spoil(bkpt, func(i *api.Ins) { i.Cond = 13 })
	spoil(uxtb, func(i *api.Ins) { i.Amount = 4 })
	spoil(uxtb, func(i *api.Ins) { i.Shift = api.ShROR })
}

// P1902: every operation, and what is none, in every form, and what is none.
func TestEncodeOfEveryOpAndForm(t *testing.T) {
	bases := []api.Ins{
		{},
		{Cond: 14},
		{Cond: 14, S: true},
		{Cond: 14, Rd: 1, Rm: 3},
		{Cond: 14, Rd: 1, Rn: 2, Pre: true},
		{Cond: 14, Rd: 1, Rn: 2, Rm: 3, Pre: true},
		{Cond: 14, Rd: 1, Ra: 4, Rs: 2, Rm: 3},
		{Cond: 14, Rn: 1, List: 1},
		{Cond: 14, Amount: 1},
	}
	right := map[[2]int]bool{}
	for _, i := range bases {
		for _, op := range numbers() {
			for _, form := range numbers() {
				i.Op, i.Form = op, form
				checkIns(t, i)
				if isa.Right(i) {
					right[[2]int{op, form}] = true
				}
			}
		}
	}
	for _, l := range lines {
		if !right[[2]int{l.op, l.form}] {
			t.Errorf("%s in the form %d was never right", l.name, l.form)
		}
	}
	if len(right) != len(lines) {
		t.Errorf("%d operations in forms were right, want %d", len(right), len(lines))
	}
}

// spoilt: the instruction with one of its fields changed, in all ways that are tried.
func spoilt(i api.Ins, try func(api.Ins)) {
	for _, n := range numbers() {
		for field := range 13 {
			c := i
			places := [...]*int{&c.Cond, &c.Op, &c.Form, &c.Rd, &c.Rn, &c.Rm, &c.Rs, &c.Ra, &c.Shift, &c.Amount, &c.Tuple.CRn, &c.Tuple.Op1, &c.Tuple.CRm}
			*places[field] = n
			try(c)
		}
		c := i
		c.Tuple.Op2 = n
		try(c)
	}
	for field := range 4 {
		c := i
		places := [...]*bool{&c.S, &c.Pre, &c.Up, &c.Write}
		*places[field] = !*places[field]
		try(c)
	}
	for bit := range 32 {
		c := i
		c.Imm ^= 1 << bit
		try(c)
		c.Imm = 1 << bit
		try(c)
		c.Imm--
		try(c)
		c = i
		c.List ^= 1 << (bit % 16)
		try(c)
	}
}

// P1902: right instructions of each row, and what becomes of them with another number in one field.
func TestEncodeWithOneFieldChanged(t *testing.T) {
	r := rand.New(rand.NewSource(4))
	for _, l := range lines {
		for n := 0; n < 4; {
			w := l.with(l.anyWord(r), 'c', 14-n)
			if l.name == "BKPT" {
				w = l.with(w, 'c', 14)
			}
			i := l.says(w)
			if l.barred(i) {
				continue
			}
			n++
			checkIns(t, i)
			spoilt(i, func(c api.Ins) { checkIns(t, c) })
		}
	}
}

// P1902: any instructions, of small numbers and of wild ones, mostly in forms that their operations have.
func TestEncodeOfAny(t *testing.T) {
	r := rand.New(rand.NewSource(5))
	some := func(below int) int {
		switch r.Intn(40) {
		case 0:
			return wild[r.Intn(len(wild))]
		case 1, 2, 3:
			return below
		case 4, 5, 6, 7, 8:
			return r.Intn(below)
		}
		return 0
	}
	right := 0
	for range 200000 {
		l := lines[r.Intn(len(lines))]
		i := api.Ins{
			Cond: r.Intn(16), Op: l.op, Form: l.form, S: r.Intn(3) == 0,
			Rd: some(16), Rn: some(16), Rm: some(16), Rs: some(16), Ra: some(16),
			Imm: uint32(some(1 << 13)), Shift: some(4), Amount: some(32),
			Pre: r.Intn(3) == 0, Up: r.Intn(3) == 0, Write: r.Intn(4) == 0,
			List:  uint16(some(1 << 16)),
			Tuple: api.Tuple{CRn: some(16), Op1: some(8), CRm: some(16), Op2: some(8)},
		}
		checkIns(t, i)
		if isa.Right(i) {
			right++
		}
	}
	if right < 1000 {
		t.Errorf("only %d of them were right", right)
	}
}
