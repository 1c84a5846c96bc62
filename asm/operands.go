package asm

import (
	"strings"

	"atlas/api"
	"atlas/isa"
)

// draft: an instruction whose operands are read, with its numbers, which are found later.
type draft struct {
	cursor
	ins     api.Ins
	at      uint32
	numbers []number
}

// number: of an instruction, and what it says of that: false, if that can not be said.
type number struct {
	value value
	says  func(n int64) bool
}

// draft: of the mnemonic, by the tokens of its operands.
func (m mnemonic) draft(operands []token) *draft {
	d := &draft{cursor: cursor{operands, api.ErrOperand}, ins: m.says}
	m.operands(d)
	d.end()
	return d
}

// settle: the instruction, at its address, once it is known what the names stand for.
func (d *draft) settle(at uint32, names map[string]int64) api.Ins {
	var found []int64
	for _, n := range d.numbers { // all of them ahead of what they say, since a name that stands for nothing is told first
		found = append(found, n.value.whole(names))
	}
	d.at = at
	for k, n := range d.numbers {
		need(n.says(found[k]), api.ErrReach)
	}
	need(isa.Right(d.ins), api.ErrIns)
	return d.ins
}

// later: keeps a number.
func (d *draft) later(v value, says func(int64) bool) { d.numbers = append(d.numbers, number{v, says}) }

// hash: a number behind a # .
func (d *draft) hash(says func(int64) bool) {
	d.must('#')
	d.later(d.value(), says)
}

// The operands, by the rows of the chapter's table.

func (d *draft) data() {
	d.leading(&d.ins.Rd, &d.ins.Rn)
	d.second()
}

func (d *draft) compare() {
	d.leading(&d.ins.Rn)
	d.second()
}

func (d *draft) move() {
	d.leading(&d.ins.Rd)
	d.second()
}

func (d *draft) half() {
	d.leading(&d.ins.Rd)
	d.hash(bounded(&d.ins.Imm, 0, 1<<16-1))
}

func (d *draft) product()     { d.registers(&d.ins.Rd, &d.ins.Rm, &d.ins.Rs) }
func (d *draft) productSum()  { d.registers(&d.ins.Rd, &d.ins.Rm, &d.ins.Rs, &d.ins.Ra) }
func (d *draft) longProduct() { d.registers(&d.ins.Ra, &d.ins.Rd, &d.ins.Rm, &d.ins.Rs) }
func (d *draft) pair()        { d.registers(&d.ins.Rd, &d.ins.Rm) }

func (d *draft) extend() {
	d.pair()
	if d.took(',') {
		d.fixed(shifts()[api.ShROR].name)
		d.hash(d.turnByBytes)
	}
}

func (d *draft) one() {
	d.leading(&d.ins.Rd)
	if isPlain(d.ins.Op) && d.next() != '[' {
		d.ins.Form, d.ins.Rn, d.ins.Pre = api.FormImm, pc, true
		d.later(d.value(), d.offsetFromPC)
		return
	}
	d.must('[')
	d.registers(&d.ins.Rn)
	switch {
	case !d.took(']'):
		d.must(',')
		d.offset()
		d.must(']')
		d.ins.Pre, d.ins.Write = true, d.took('!')
	case d.took(','):
		d.offset()
	default:
		d.ins.Form, d.ins.Pre, d.ins.Up = api.FormImm, true, true
	}
}

func (d *draft) many() {
	d.registers(&d.ins.Rn)
	d.ins.Write = d.took('!')
	d.must(',')
	d.stack()
}

func (d *draft) stack()  { d.ins.List = d.list() }
func (d *draft) branch() { d.later(d.value(), d.branchTo) }
func (d *draft) jump()   { d.registers(&d.ins.Rm) }
func (d *draft) call()   { d.hash(bounded(&d.ins.Imm, 0, 1<<24-1)) }
func (d *draft) stop()   { d.hash(bounded(&d.ins.Imm, 0, 1<<16-1)) }

func (d *draft) near() {
	d.leading(&d.ins.Rd)
	d.later(d.value(), d.sumWithPC)
}

func (d *draft) readStatus() {
	d.leading(&d.ins.Rd)
	d.ins.S = d.status(d.must(aWord).text)
}

func (d *draft) writeStatus() {
	name, letters, _ := strings.Cut(d.must(aWord).text, "_")
	d.ins.S = d.status(name)
	d.ins.Amount = maskOf(letters)
	need(d.ins.Amount != 0, d.errno)
	d.must(',')
	if d.next() == '#' {
		d.immediate()
		return
	}
	d.ins.Form = api.FormReg
	d.registers(&d.ins.Rm)
}

// status: does the word name the saved one of the two status registers?
func (d *draft) status(text string) bool {
	saved, ok := statusOf(text)
	need(ok, d.errno)
	return saved
}

func (d *draft) coprocessor() {
	d.fixed("p15")
	d.must(',')
	d.hash(bounded(&d.ins.Tuple.Op1, 0, 7))
	d.must(',')
	d.leading(&d.ins.Rd)
	d.ins.Tuple.CRn = d.control()
	d.must(',')
	d.ins.Tuple.CRm = d.control()
	d.must(',')
	d.hash(bounded(&d.ins.Tuple.Op2, 0, 7))
}

// control: the number of a register of the coprocessor.
func (d *draft) control() int {
	n, ok := controlOf(d.must(aWord).text)
	need(ok, d.errno)
	return n
}

func (d *draft) nothing() {}

// second: OP2.
func (d *draft) second() {
	if d.next() == '#' {
		d.immediate()
		return
	}
	d.ins.Form = api.FormReg
	d.registers(&d.ins.Rm)
	if d.took(',') {
		d.shifted(true)
	}
}

// immediate: one number that twelve bits say, or the two numbers that they are.
func (d *draft) immediate() {
	d.ins.Form = api.FormImm
	d.must('#')
	first := d.value()
	if !d.took(',') {
		d.later(first, d.constant)
		return
	}
	d.later(first, bounded(&d.ins.Imm, 0, 255))
	d.later(d.value(), d.turned)
}

// shifted: how Rm is shifted; by a register only where that may be.
func (d *draft) shifted(byRegister bool) {
	text := d.must(aWord).text
	if text == rrx {
		d.ins.Shift = api.ShROR
		return
	}
	kind, ok := shiftOf(text)
	need(ok, d.errno)
	d.ins.Shift = kind
	if byRegister && d.next() == aWord {
		d.ins.Form = api.FormRsr
		d.registers(&d.ins.Rs)
		return
	}
	d.hash(d.shiftedBy)
}

// offset: of an address, behind the register that it counts from.
func (d *draft) offset() {
	if d.took('#') {
		d.ins.Form = api.FormImm
		v := d.value()
		d.later(v, func(n int64) bool { return d.offsetBy(n, n >= 0 && !v.minus) })
		return
	}
	d.ins.Form = api.FormReg
	d.ins.Up = !d.took('-')
	if d.ins.Up {
		d.took('+')
	}
	d.registers(&d.ins.Rm)
	if isPlain(d.ins.Op) && d.took(',') {
		d.shifted(false)
	}
}
