package manager

import (
	"slices"

	"atlas/api"
	"atlas/desc"
	"atlas/rights"
)

// Share: the windows of a range of one space have twins in another (F16.8).
func (m *Manager) Share(to int, va uint32, from int, source uint32, length uint64, r api.Rights) api.Errno {
	m.mutex.Lock()
	defer m.mutex.Unlock()
	if e := m.refused(length, va, source); e != api.OK {
		return e
	}
	leaf, e := rights.Leaf(r)
	if e != api.OK {
		return e
	}
	taker, taking := m.spaces[to]
	giver, giving := m.spaces[from]
	if !taking || !giving {
		return api.ErrNoSpace
	}
	l, e := giver.filling(source, length)
	if e != api.OK {
		return e
	}
	for i := range l {
		l[i].VA, l[i].Leaf = va+(l[i].VA-source), leaf
	}
	if e := m.refusedTwins(taker, l); e != api.OK {
		return e
	}
	for _, b := range l {
		m.pool.Share(firstFrame(b), framesOf(b.Size))
	}
	m.editor.Put(taker.root, l...)
	taker.keep(l)
	return api.OK
}

// refusedTwins: why a space can not have these twins.
func (m *Manager) refusedTwins(s *space, l []api.Trans) api.Errno {
	if slices.ContainsFunc(l, astray) {
		return api.ErrAlign
	}
	for _, b := range l {
		if s.meets(b.VA, desc.Bytes(b.Size)) {
			return api.ErrOverlap
		}
	}
	if m.usedUp(l) {
		return api.ErrShared
	}
	return m.editor.Fits(s.root, l...)
}

// astray: does it stand where no block of its size can?
func astray(b api.Trans) bool { return uint64(b.VA)%desc.Bytes(b.Size) != 0 }

// usedUp: would a frame of these twins have too many uses? Windows have all of their frames in common or none, since only whole windows are shared: so the first frame tells of all.
func (m *Manager) usedUp(l []api.Trans) bool {
	uses := map[int]int{}
	for _, b := range l {
		f := firstFrame(b)
		uses[f]++
		if m.pool.Uses(f)+uses[f] > api.MaxUses {
			return true
		}
	}
	return false
}
