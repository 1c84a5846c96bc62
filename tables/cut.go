package tables

import (
	"maps"
	"slices"

	"atlas/api"
)

// The greatest AP and Bits of a leaf.
const (
	maxAP   = 7
	maxBits = 63
)

// Cut: blocks go out of it (F14.6).
func (e *Editor) Cut(root uint64, asid int, vas ...uint32) api.Errno {
	t, ok := e.roots[root]
	if !ok {
		return api.ErrRoot
	}
	if !isAsid(asid) {
		return api.ErrArg
	}
	if !t.eachInOne(vas) {
		return api.ErrCut
	}
	for _, va := range vas {
		i, _ := t.find(va)
		b := t.blocks[i]
		e.breakBlock(root, asid, b)
		t.remove(i)
		if isPage(b) && !t.hasIn(megOf(b.VA)) {
			e.unhang(root, megOf(b.VA))
		}
	}
	return api.OK
}

// Change: blocks get another leaf (F14.7).
func (e *Editor) Change(root uint64, asid int, leaf api.Leaf, vas ...uint32) api.Errno {
	t, ok := e.roots[root]
	if !ok {
		return api.ErrRoot
	}
	if !isAsid(asid) || !isLeaf(leaf) {
		return api.ErrArg
	}
	if !t.eachInOne(vas) {
		return api.ErrCut
	}
	for _, va := range vas {
		i, _ := t.find(va)
		e.breakBlock(root, asid, t.blocks[i])
		t.blocks[i].Leaf = leaf
		e.writeBlock(root, t.blocks[i], wordOf(t.blocks[i]))
	}
	return api.OK
}

// Empty: all blocks go out of it (F14.8).
func (e *Editor) Empty(root uint64, asid int) api.Errno {
	t, ok := e.roots[root]
	if !ok {
		return api.ErrRoot
	}
	if !isAsid(asid) {
		return api.ErrArg
	}
	if len(t.blocks) == 0 {
		return api.OK
	}
	for _, b := range t.blocks {
		e.writeBlock(root, b, 0)
	}
	e.drop(tlbiAsid, uint32(asid))
	t.blocks = nil
	for _, meg := range slices.Sorted(maps.Keys(t.tables)) {
		e.unhang(root, meg)
	}
	return api.OK
}

// unhang: a table without a block goes back, once nothing leads to it.
func (e *Editor) unhang(root uint64, meg uint32) {
	t := e.roots[root]
	e.write(firstLevel(root, meg), 0)
	e.slab.Drop(t.tables[meg].number)
	delete(t.tables, meg)
}

// isAsid: is there such an ASID?
func isAsid(asid int) bool { return asid >= 0 && asid <= api.MaxAsid }

// isLeaf: may a block of an editor have it?
func isLeaf(l api.Leaf) bool {
	return l.AP >= 0 && l.AP <= maxAP && l.Bits <= maxBits && l.NG
}

// eachInOne: does each address lie in a block, no two in one?
func (t *tree) eachInOne(vas []uint32) bool {
	var places []int
	for _, va := range vas {
		i, ok := t.find(va)
		if !ok {
			return false
		}
		places = append(places, i)
	}
	slices.Sort(places)
	return len(slices.Compact(places)) == len(vas)
}
