package isa

import "atlas/api"

// mayBe: of what a word that fits its row says: is it not undefined all the same? Fields that the row has not are 0.
func mayBe(i api.Ins) bool {
	switch {
	case i.Cond == never:
		return false
	case i.Form == api.FormRsr:
		return !isPC(i.Rd, i.Rn, i.Rm, i.Rs)
	case i.Op >= api.OpMOVW && i.Op <= api.OpSXTH:
		return !isPC(i.Rd, i.Rm, i.Rs, i.Ra) && !(isLong(i.Op) && i.Rd == i.Ra)
	case isOne(i.Op):
		return oneMayBe(i)
	}
	switch i.Op {
	case api.OpLDM, api.OpSTM:
		return manyMayBe(i)
	case api.OpBX, api.OpBLX:
		return i.Rm != pc
	case api.OpMRS, api.OpMCR, api.OpMRC:
		return i.Rd != pc
	case api.OpMSR:
		return i.Amount != 0 && i.Rm != pc
	case api.OpBKPT:
		return i.Cond == always
	}
	return true
}

// oneMayBe: of a load or a store of one register.
func oneMayBe(i api.Ins) bool {
	if i.Write && !i.Pre {
		return false
	}
	if movesRn(i) && (i.Rn == pc || i.Rn == i.Rd) {
		return false
	}
	return i.Rm != pc && (i.Rd != pc || i.Op == api.OpLDR)
}

// manyMayBe: of a load or a store of a list.
func manyMayBe(i api.Ins) bool {
	if i.List == 0 || i.Rn == pc {
		return false
	}
	if i.Write && i.List>>i.Rn&1 == 1 {
		return false
	}
	return i.Op == api.OpLDM || i.List>>pc&1 == 0
}

// isPC: is one of the registers the PC?
func isPC(regs ...int) bool {
	for _, reg := range regs {
		if reg == pc {
			return true
		}
	}
	return false
}
