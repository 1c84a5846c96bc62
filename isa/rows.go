package isa

import "atlas/api"

// The fields of an instruction that stand in words, but Cond, whose place is the same in all of them.
const (
	fieldOp = iota // one less than Op
	fieldS
	fieldRd
	fieldRn
	fieldRm
	fieldRs
	fieldRa
	fieldImm
	fieldShift
	fieldAmount
	fieldPre
	fieldUp
	fieldWrite
	fieldList
	fieldCRn
	fieldOp1
	fieldCRm
	fieldOp2
)

// part: some bits of a field and where they stand in a word: the lowest one at, as many as it is wide; that one is the bit from of the field.
type part struct {
	field, at, wide, from uint8
}

// The parts that words are made of: a field that stands in unlike places, or in pieces, has a part for each.
const (
	partOp = iota
	partS
	partStatusS
	partRd
	partProductRd
	partRn
	partRm
	partRs
	partRa
	partImm12
	partImm24
	partReach
	partImmLow
	partImmSecond
	partImmRest
	partImmTop
	partShift
	partAmount
	partTurn
	partMask
	partPre
	partUp
	partWrite
	partList
	partCRn
	partOp1
	partCRm
	partOp2
	partCount
)

// places: of the parts.
func places() [partCount]part {
	return [...]part{
		partOp:        {field: fieldOp, at: 21, wide: 4},
		partS:         {field: fieldS, at: 20, wide: 1},
		partStatusS:   {field: fieldS, at: 22, wide: 1},
		partRd:        {field: fieldRd, at: 12, wide: 4},
		partProductRd: {field: fieldRd, at: 16, wide: 4},
		partRn:        {field: fieldRn, at: 16, wide: 4},
		partRm:        {field: fieldRm, at: 0, wide: 4},
		partRs:        {field: fieldRs, at: 8, wide: 4},
		partRa:        {field: fieldRa, at: 12, wide: 4},
		partImm12:     {field: fieldImm, at: 0, wide: 12},
		partImm24:     {field: fieldImm, at: 0, wide: 24},
		partReach:     {field: fieldImm, at: 0, wide: 24, from: 2},
		partImmLow:    {field: fieldImm, at: 0, wide: 4},
		partImmSecond: {field: fieldImm, at: 8, wide: 4, from: 4},
		partImmRest:   {field: fieldImm, at: 8, wide: 12, from: 4},
		partImmTop:    {field: fieldImm, at: 16, wide: 4, from: 12},
		partShift:     {field: fieldShift, at: 5, wide: 2},
		partAmount:    {field: fieldAmount, at: 7, wide: 5},
		partTurn:      {field: fieldAmount, at: 10, wide: 2},
		partMask:      {field: fieldAmount, at: 16, wide: 4},
		partPre:       {field: fieldPre, at: 24, wide: 1},
		partUp:        {field: fieldUp, at: 23, wide: 1},
		partWrite:     {field: fieldWrite, at: 21, wide: 1},
		partList:      {field: fieldList, at: 0, wide: 16},
		partCRn:       {field: fieldCRn, at: 16, wide: 4},
		partOp1:       {field: fieldOp1, at: 21, wide: 3},
		partCRm:       {field: fieldCRm, at: 0, wide: 4},
		partOp2:       {field: fieldOp2, at: 5, wide: 3},
	}
}

// Parts that come together, a bit each.
const (
	dataTwo  = 1<<partOp | 1<<partS | 1<<partRn | 1<<partRd
	dataTest = 1<<partOp | 1<<partS | 1<<partRn
	dataMove = 1<<partOp | 1<<partS | 1<<partRd

	byNumber   = 1 << partImm12
	byRegister = 1 << partRm
	byShift    = 1<<partRm | 1<<partShift | 1<<partAmount
	byRs       = 1<<partRm | 1<<partShift | 1<<partRs
	byHalves   = 1<<partImmLow | 1<<partImmSecond

	half      = 1<<partRd | 1<<partImm12 | 1<<partImmTop
	product   = 1<<partS | 1<<partProductRd | 1<<partRs | 1<<partRm
	productRa = product | 1<<partRa
	small     = 1<<partRd | 1<<partRm
	turned    = small | 1<<partTurn
	beside    = 1<<partPre | 1<<partUp | 1<<partWrite | 1<<partRn
	one       = beside | 1<<partRd
	many      = beside | 1<<partList
	stop      = 1<<partImmLow | 1<<partImmRest
	readState = 1<<partStatusS | 1<<partRd
	setState  = 1<<partStatusS | 1<<partMask
	tuple     = 1<<partRd | 1<<partCRn | 1<<partOp1 | 1<<partCRm | 1<<partOp2
)

// row: the words that say an operation in a form: those whose bits under the mask are these; what their parts are. With partOp it is of several operations, op the first of them.
type row struct {
	op, form   uint8
	mask, bits uint32
	parts      uint32
}

// lowRows: of words whose bits 27 and 26 are 0. NOP and WFI stand ahead of MSR, which they fit too with the mask 0.
func lowRows() [37]row {
	return [...]row{
		{op: api.OpAND, form: api.FormImm, mask: 0x0F000000, bits: 0x02000000, parts: dataTwo | byNumber},
		{op: api.OpAND, form: api.FormReg, mask: 0x0F000010, bits: 0x00000000, parts: dataTwo | byShift},
		{op: api.OpAND, form: api.FormRsr, mask: 0x0F000090, bits: 0x00000010, parts: dataTwo | byRs},
		{op: api.OpORR, form: api.FormImm, mask: 0x0FA00000, bits: 0x03800000, parts: dataTwo | byNumber},
		{op: api.OpORR, form: api.FormReg, mask: 0x0FA00010, bits: 0x01800000, parts: dataTwo | byShift},
		{op: api.OpORR, form: api.FormRsr, mask: 0x0FA00090, bits: 0x01800010, parts: dataTwo | byRs},
		{op: api.OpTST, form: api.FormImm, mask: 0x0F90F000, bits: 0x03100000, parts: dataTest | byNumber},
		{op: api.OpTST, form: api.FormReg, mask: 0x0F90F010, bits: 0x01100000, parts: dataTest | byShift},
		{op: api.OpTST, form: api.FormRsr, mask: 0x0F90F090, bits: 0x01100010, parts: dataTest | byRs},
		{op: api.OpMOV, form: api.FormImm, mask: 0x0FAF0000, bits: 0x03A00000, parts: dataMove | byNumber},
		{op: api.OpMOV, form: api.FormReg, mask: 0x0FAF0010, bits: 0x01A00000, parts: dataMove | byShift},
		{op: api.OpMOV, form: api.FormRsr, mask: 0x0FAF0090, bits: 0x01A00010, parts: dataMove | byRs},
		{op: api.OpMOVW, mask: 0x0FF00000, bits: 0x03000000, parts: half},
		{op: api.OpMOVT, mask: 0x0FF00000, bits: 0x03400000, parts: half},
		{op: api.OpMUL, mask: 0x0FE0F0F0, bits: 0x00000090, parts: product},
		{op: api.OpMLA, mask: 0x0FE000F0, bits: 0x00200090, parts: productRa},
		{op: api.OpUMULL, mask: 0x0FE000F0, bits: 0x00800090, parts: productRa},
		{op: api.OpUMLAL, mask: 0x0FE000F0, bits: 0x00A00090, parts: productRa},
		{op: api.OpSMULL, mask: 0x0FE000F0, bits: 0x00C00090, parts: productRa},
		{op: api.OpSMLAL, mask: 0x0FE000F0, bits: 0x00E00090, parts: productRa},
		{op: api.OpCLZ, mask: 0x0FFF0FF0, bits: 0x016F0F10, parts: small},
		{op: api.OpLDRH, form: api.FormImm, mask: 0x0E5000F0, bits: 0x005000B0, parts: one | byHalves},
		{op: api.OpSTRH, form: api.FormImm, mask: 0x0E5000F0, bits: 0x004000B0, parts: one | byHalves},
		{op: api.OpLDRSB, form: api.FormImm, mask: 0x0E5000F0, bits: 0x005000D0, parts: one | byHalves},
		{op: api.OpLDRSH, form: api.FormImm, mask: 0x0E5000F0, bits: 0x005000F0, parts: one | byHalves},
		{op: api.OpLDRH, form: api.FormReg, mask: 0x0E500FF0, bits: 0x001000B0, parts: one | byRegister},
		{op: api.OpSTRH, form: api.FormReg, mask: 0x0E500FF0, bits: 0x000000B0, parts: one | byRegister},
		{op: api.OpLDRSB, form: api.FormReg, mask: 0x0E500FF0, bits: 0x001000D0, parts: one | byRegister},
		{op: api.OpLDRSH, form: api.FormReg, mask: 0x0E500FF0, bits: 0x001000F0, parts: one | byRegister},
		{op: api.OpBX, mask: 0x0FFFFFF0, bits: 0x012FFF10, parts: byRegister},
		{op: api.OpBLX, mask: 0x0FFFFFF0, bits: 0x012FFF30, parts: byRegister},
		{op: api.OpBKPT, mask: 0x0FF000F0, bits: 0x01200070, parts: stop},
		{op: api.OpMRS, mask: 0x0FBF0FFF, bits: 0x010F0000, parts: readState},
		{op: api.OpNOP, mask: 0x0FFFFFFF, bits: 0x0320F000},
		{op: api.OpWFI, mask: 0x0FFFFFFF, bits: 0x0320F003},
		{op: api.OpMSR, form: api.FormReg, mask: 0x0FB0FFF0, bits: 0x0120F000, parts: setState | byRegister},
		{op: api.OpMSR, form: api.FormImm, mask: 0x0FB0F000, bits: 0x0320F000, parts: setState | byNumber},
	}
}

// highRows: of all other words.
func highRows() [20]row {
	return [...]row{
		{op: api.OpLDR, form: api.FormImm, mask: 0x0E500000, bits: 0x04100000, parts: one | byNumber},
		{op: api.OpSTR, form: api.FormImm, mask: 0x0E500000, bits: 0x04000000, parts: one | byNumber},
		{op: api.OpLDRB, form: api.FormImm, mask: 0x0E500000, bits: 0x04500000, parts: one | byNumber},
		{op: api.OpSTRB, form: api.FormImm, mask: 0x0E500000, bits: 0x04400000, parts: one | byNumber},
		{op: api.OpLDR, form: api.FormReg, mask: 0x0E500010, bits: 0x06100000, parts: one | byShift},
		{op: api.OpSTR, form: api.FormReg, mask: 0x0E500010, bits: 0x06000000, parts: one | byShift},
		{op: api.OpLDRB, form: api.FormReg, mask: 0x0E500010, bits: 0x06500000, parts: one | byShift},
		{op: api.OpSTRB, form: api.FormReg, mask: 0x0E500010, bits: 0x06400000, parts: one | byShift},
		{op: api.OpREV, mask: 0x0FFF0FF0, bits: 0x06BF0F30, parts: small},
		{op: api.OpUXTB, mask: 0x0FFF03F0, bits: 0x06EF0070, parts: turned},
		{op: api.OpUXTH, mask: 0x0FFF03F0, bits: 0x06FF0070, parts: turned},
		{op: api.OpSXTB, mask: 0x0FFF03F0, bits: 0x06AF0070, parts: turned},
		{op: api.OpSXTH, mask: 0x0FFF03F0, bits: 0x06BF0070, parts: turned},
		{op: api.OpLDM, mask: 0x0E500000, bits: 0x08100000, parts: many},
		{op: api.OpSTM, mask: 0x0E500000, bits: 0x08000000, parts: many},
		{op: api.OpB, mask: 0x0F000000, bits: 0x0A000000, parts: 1 << partReach},
		{op: api.OpBL, mask: 0x0F000000, bits: 0x0B000000, parts: 1 << partReach},
		{op: api.OpSVC, mask: 0x0F000000, bits: 0x0F000000, parts: 1 << partImm24},
		{op: api.OpMCR, mask: 0x0F100F10, bits: 0x0E000F10, parts: tuple},
		{op: api.OpMRC, mask: 0x0F100F10, bits: 0x0E100F10, parts: tuple},
	}
}

// has: do its words have that part?
func (r row) has(which int) bool { return r.parts>>which&1 == 1 }

// rowOfWord: the row that a word fits.
func rowOfWord(w uint32) (row, bool) {
	if w>>26&3 == 0 {
		rows := lowRows()
		return fitting(rows[:], w)
	}
	rows := highRows()
	return fitting(rows[:], w)
}

// fitting: the first one that the word fits.
func fitting(rows []row, w uint32) (row, bool) {
	for _, r := range rows {
		if w&r.mask == r.bits {
			return r, true
		}
	}
	return row{}, false
}

// rowOfName: the row of an operation in a form.
func rowOfName(op, form int) (row, bool) {
	op = firstAlike(op)
	low := lowRows()
	if r, ok := named(low[:], op, form); ok {
		return r, true
	}
	high := highRows()
	return named(high[:], op, form)
}

// named: the one of an operation in a form.
func named(rows []row, op, form int) (row, bool) {
	for _, r := range rows {
		if r.isOf(op, form) {
			return r, true
		}
	}
	return row{}, false
}

func (r row) isOf(op, form int) bool { return int(r.op) == op && int(r.form) == form }

// firstAlike: the operation by which the row of op goes.
func firstAlike(op int) int {
	switch op {
	case api.OpAND, api.OpEOR, api.OpSUB, api.OpRSB, api.OpADD, api.OpADC, api.OpSBC, api.OpRSC:
		return api.OpAND
	case api.OpTST, api.OpTEQ, api.OpCMP, api.OpCMN:
		return api.OpTST
	case api.OpORR, api.OpBIC:
		return api.OpORR
	case api.OpMOV, api.OpMVN:
		return api.OpMOV
	}
	return op
}
