package tables

import (
	"cmp"
	"slices"

	"atlas/api"
	"atlas/desc"
)

// megBits: of the offset in a MiB, which has one first-level descriptor.
const megBits = 20

// megOf: the number of an address' MiB.
func megOf(va uint32) uint32 { return va >> megBits }

// isPage: does the block stand in a second-level table?
func isPage(b api.Trans) bool { return b.Size == api.Small || b.Size == api.Large }

// last: the block's last address.
func last(b api.Trans) uint64 { return uint64(b.VA) + desc.Bytes(b.Size) - 1 }

// byVA: the order in which a tree keeps its blocks.
func byVA(a, b api.Trans) int { return cmp.Compare(a.VA, b.VA) }

// from: the place of the first block that does not end ahead of an address.
func (t *tree) from(va uint32) int {
	i, _ := slices.BinarySearchFunc(t.blocks, va, func(b api.Trans, va uint32) int {
		return cmp.Compare(last(b), uint64(va))
	})
	return i
}

// find: the place of the block in which an address lies.
func (t *tree) find(va uint32) (int, bool) {
	i := t.from(va)
	return i, i < len(t.blocks) && t.blocks[i].VA <= va
}

// meets: is an address of b in a block of the tree?
func (t *tree) meets(b api.Trans) bool {
	i := t.from(b.VA)
	return i < len(t.blocks) && uint64(t.blocks[i].VA) <= last(b)
}

// add: a block that meets none of the others.
func (t *tree) add(b api.Trans) {
	t.blocks = slices.Insert(t.blocks, t.from(b.VA), b)
}

// remove: the block at that place.
func (t *tree) remove(i int) { t.blocks = slices.Delete(t.blocks, i, i+1) }

// hasIn: is a block left in that MiB?
func (t *tree) hasIn(meg uint32) bool {
	return t.meets(api.Trans{Size: api.Section, VA: meg << megBits})
}
