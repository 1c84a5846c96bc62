package asm

import "atlas/api"

// shape: how the operands of some instructions are read, and told.
type shape struct {
	read func(*draft)
	tell func(i api.Ins, at uint32) []string
}

// shapeOf: that of an instruction, by its number.
func shapeOf(op int) shape {
	switch op {
	case api.OpTST, api.OpTEQ, api.OpCMP, api.OpCMN:
		return shape{(*draft).compare, tellCompare}
	case api.OpMOV, api.OpMVN:
		return shape{(*draft).move, tellMove}
	case api.OpMOVW, api.OpMOVT:
		return shape{(*draft).half, tellHalf}
	case api.OpMUL:
		return shape{(*draft).product, tellProduct}
	case api.OpMLA:
		return shape{(*draft).productSum, tellProductSum}
	case api.OpUMULL, api.OpUMLAL, api.OpSMULL, api.OpSMLAL:
		return shape{(*draft).longProduct, tellLongProduct}
	case api.OpCLZ, api.OpREV:
		return shape{(*draft).pair, tellPair}
	case api.OpUXTB, api.OpUXTH, api.OpSXTB, api.OpSXTH:
		return shape{(*draft).extend, tellExtend}
	case api.OpLDR, api.OpSTR, api.OpLDRB, api.OpSTRB, api.OpLDRH, api.OpSTRH, api.OpLDRSB, api.OpLDRSH:
		return shape{(*draft).one, tellOne}
	case api.OpLDM, api.OpSTM:
		return shape{(*draft).many, tellMany}
	case api.OpB, api.OpBL:
		return shape{(*draft).branch, tellBranch}
	case api.OpBX, api.OpBLX:
		return shape{(*draft).jump, tellJump}
	case api.OpSVC:
		return shape{(*draft).call, tellCall}
	case api.OpBKPT:
		return shape{(*draft).stop, tellCall}
	case api.OpMRS:
		return shape{(*draft).readStatus, tellReadStatus}
	case api.OpMSR:
		return shape{(*draft).writeStatus, tellWriteStatus}
	case api.OpMCR, api.OpMRC:
		return shape{(*draft).coprocessor, tellCoprocessor}
	case api.OpNOP, api.OpWFI:
		return shape{(*draft).nothing, tellNothing}
	}
	return shape{(*draft).data, tellData}
}

// isPlain: is it a load or a store of a word, or of a byte without sign? The others have shorter offsets, no shifts, and no address alone.
func isPlain(op int) bool { return op >= api.OpLDR && op <= api.OpSTRB }
