package tables

import (
	"slices"

	"atlas/api"
	"atlas/desc"
)

// wordBytes: of a descriptor.
const wordBytes = 4

// pageBits: of the offset in a page; pagesOfMeg: as many descriptors has a second-level table.
const (
	pageBits   = 12
	pagesOfMeg = 1 << (megBits - pageBits)
)

// The operations that drop from the TLBs, as they are named to the coprocessor.
const (
	tlbiCRn  = 8
	tlbiCRm  = 7
	tlbiMva  = 1 // a page, for an ASID
	tlbiAsid = 2 // all of an ASID
)

// write: words one behind the other, rising.
func (e *Editor) write(pa uint64, words ...uint32) {
	for i, w := range words {
		e.machine.Poke(pa+wordBytes*uint64(i), w)
	}
}

// writeBlock: each of a block's descriptors gets that word.
func (e *Editor) writeBlock(root uint64, b api.Trans, w uint32) {
	e.write(e.place(root, b), slices.Repeat([]uint32{w}, desc.Repeats(b.Size))...)
}

// drop: what the TLBs may keep, by one of the operations.
func (e *Editor) drop(operation int, v uint32) {
	e.machine.Mcr(api.Tuple{CRn: tlbiCRn, CRm: tlbiCRm, Op2: operation}, v, false)
}

// breakBlock: nothing leads to the block any more, and no TLB keeps it: only now its descriptors may be made anew (P1404).
func (e *Editor) breakBlock(root uint64, asid int, b api.Trans) {
	e.writeBlock(root, b, 0)
	e.drop(tlbiMva, b.VA+uint32(asid))
}

// place: the address of a block's first descriptor.
func (e *Editor) place(root uint64, b api.Trans) uint64 {
	if !isPage(b) {
		return firstLevel(root, megOf(b.VA))
	}
	page := b.VA >> pageBits % pagesOfMeg
	return tableAddress(e.roots[root].tables[megOf(b.VA)]) + wordBytes*uint64(page)
}

// firstLevel: the address of a MiB's descriptor.
func firstLevel(root uint64, meg uint32) uint64 { return root + wordBytes*uint64(meg) }

// tableAddress: where a table stands.
func tableAddress(t table) uint64 { return uint64(t.number) * api.TableBytes }

// wordOf: the word of a block that is right.
func wordOf(b api.Trans) uint32 {
	entry, _ := desc.Entry(b)
	if isPage(b) {
		w, _ := desc.Encode2(entry)
		return w
	}
	w, _ := desc.Encode1(entry)
	return w
}

// wordOfTable: the first-level descriptor that leads to it.
func wordOfTable(t table) uint32 {
	w, _ := desc.Encode1(api.Entry{Kind: api.DTable, Base: tableAddress(t), Domain: t.domain})
	return w
}
