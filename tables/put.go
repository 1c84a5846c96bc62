package tables

import (
	"slices"

	"atlas/api"
	"atlas/desc"
)

// undo: how to take back what was begun, one closure for each thing, in the order in which they were begun.
type undo []func()

// back: what was begun is taken back, the last one first.
func (u undo) back() {
	for _, one := range slices.Backward(u) {
		one()
	}
}

// taken: a table that a Put takes for a MiB without one; fresh, if its frame came from the pool for it, so that its bytes may be anything.
type taken struct {
	table
	fresh bool
}

// Fits: what Put would answer (F14.5).
func (e *Editor) Fits(root uint64, l ...api.Trans) api.Errno {
	if err := e.refused(root, l); err != api.OK {
		return err
	}
	_, begun, err := e.takeTables(e.roots[root], l)
	begun.back()
	return err
}

// Put: blocks come into a root (F14.4).
func (e *Editor) Put(root uint64, l ...api.Trans) api.Errno {
	if err := e.refused(root, l); err != api.OK {
		return err
	}
	t := e.roots[root]
	news, begun, err := e.takeTables(t, l)
	if err != api.OK {
		begun.back()
		return err
	}
	for _, b := range l {
		if _, ok := t.tables[megOf(b.VA)]; isPage(b) && !ok {
			e.hang(root, megOf(b.VA), news[megOf(b.VA)])
		}
		t.add(b)
		e.writeBlock(root, b, wordOf(b))
	}
	return api.OK
}

// hang: a table that was taken stands in the root; it holds zeros ahead of the word that leads to it.
func (e *Editor) hang(root uint64, meg uint32, one taken) {
	if one.fresh {
		e.machine.Wipe(int(tableAddress(one.table)/api.FrameBytes), 1)
	}
	e.roots[root].tables[meg] = one.table
	e.write(firstLevel(root, meg), wordOfTable(one.table))
}

// takeTables: the tables that a Put of l needs beside those that stand, by MiB, taken from the slab in l's order; and how they go back. ErrFrames, if there are too few.
func (e *Editor) takeTables(t *tree, l []api.Trans) (map[uint32]taken, undo, api.Errno) {
	news := map[uint32]taken{}
	var begun undo
	for _, b := range l {
		_, stands := t.tables[megOf(b.VA)]
		if _, ok := news[megOf(b.VA)]; ok || stands || !isPage(b) {
			continue
		}
		free := e.pool.Free()
		number, err := e.slab.Take()
		if err != api.OK {
			return nil, begun, err
		}
		begun = append(begun, func() { e.slab.Drop(number) })
		news[megOf(b.VA)] = taken{table{number, b.Domain}, e.pool.Free() < free}
	}
	return news, begun, api.OK
}

// refused: the errors of a Put that hang on what is asked and on what stands, not on what is left.
func (e *Editor) refused(root uint64, l []api.Trans) api.Errno {
	t, ok := e.roots[root]
	if !ok {
		return api.ErrRoot
	}
	for _, b := range l {
		if !desc.Right(b) || !b.Leaf.NG || last(b) >= 1<<(addressBits-e.n) {
			return api.ErrArg
		}
	}
	if slices.ContainsFunc(l, t.meets) || meetEachOther(l) || t.mixes(l) {
		return api.ErrPut
	}
	return api.OK
}

// meetEachOther: have two of them an address in common? If any two have, two that stand side by side in their order have.
func meetEachOther(l []api.Trans) bool {
	rising := slices.SortedFunc(slices.Values(l), byVA)
	for i := 1; i < len(rising); i++ {
		if last(rising[i-1]) >= uint64(rising[i].VA) {
			return true
		}
	}
	return false
}

// mixes: would a table have blocks of two domains with these?
func (t *tree) mixes(l []api.Trans) bool {
	domains := map[uint32]int{}
	for _, b := range l {
		if !isPage(b) {
			continue
		}
		m := megOf(b.VA)
		if stands, ok := t.tables[m]; ok {
			domains[m] = stands.domain
		}
		if d, ok := domains[m]; ok && d != b.Domain {
			return true
		}
		domains[m] = b.Domain
	}
	return false
}
