package manager

import (
	"atlas/api"
	"atlas/desc"
	"atlas/rights"
)

// Map: count new windows of a size, one behind the other (F16.5).
func (m *Manager) Map(id int, va uint32, size, count int, r api.Rights) api.Errno {
	m.mutex.Lock()
	defer m.mutex.Unlock()
	bytes := desc.Bytes(size)
	if bytes == 0 || count < 1 || count > api.MaxCount {
		return api.ErrArg
	}
	length := bytes * uint64(count)
	if uint64(va)%bytes != 0 {
		return api.ErrAlign
	}
	if !m.inPart(va, length) {
		return api.ErrKernel
	}
	leaf, e := rights.Leaf(r)
	if e != api.OK {
		return e
	}
	s, ok := m.spaces[id]
	if !ok {
		return api.ErrNoSpace
	}
	if s.meets(va, length) {
		return api.ErrOverlap
	}
	l, e := m.takeFrames(s, blank(va, size, count, leaf))
	if e != api.OK {
		return e
	}
	for _, b := range l {
		m.machine.Wipe(firstFrame(b), framesOf(b.Size))
	}
	m.editor.Put(s.root, l...)
	s.keep(l)
	return api.OK
}

// blank: windows one behind the other, without frames yet.
func blank(va uint32, size, count int, leaf api.Leaf) []api.Trans {
	var l []api.Trans
	for i := range count {
		at := va + uint32(i)*uint32(desc.Bytes(size))
		l = append(l, api.Trans{Size: size, VA: at, Domain: domainOf(size), Leaf: leaf})
	}
	return l
}

// takeFrames: new windows with frames of their own, for which the space's tables have room, or can have: ErrFrames, and none is taken, if there are too few.
func (m *Manager) takeFrames(s *space, blank []api.Trans) ([]api.Trans, api.Errno) {
	var l []api.Trans
	for _, b := range blank {
		k := framesOf(b.Size)
		first, e := m.pool.Take(k, k)
		if e != api.OK {
			m.dropFrames(l)
			return nil, e
		}
		b.PA = uint64(first) * api.FrameBytes
		l = append(l, b)
	}
	if e := m.editor.Fits(s.root, l...); e != api.OK {
		m.dropFrames(l)
		return nil, e
	}
	return l, api.OK
}

// dropFrames: windows stand on their frames no more.
func (m *Manager) dropFrames(l []api.Trans) {
	for _, b := range l {
		m.pool.Drop(firstFrame(b), framesOf(b.Size))
	}
}

// Unmap: the windows of a range go (F16.6).
func (m *Manager) Unmap(id int, va uint32, length uint64) api.Errno {
	m.mutex.Lock()
	defer m.mutex.Unlock()
	if e := m.refused(length, va); e != api.OK {
		return e
	}
	s, ok := m.spaces[id]
	if !ok {
		return api.ErrNoSpace
	}
	l, e := s.filling(va, length)
	if e != api.OK {
		return e
	}
	m.editor.Cut(s.root, id, addresses(l)...)
	m.dropFrames(l)
	s.lose(l)
	return api.OK
}

// Protect: the windows of a range have other rights (F16.7).
func (m *Manager) Protect(id int, va uint32, length uint64, r api.Rights) api.Errno {
	m.mutex.Lock()
	defer m.mutex.Unlock()
	if e := m.refused(length, va); e != api.OK {
		return e
	}
	leaf, e := rights.Leaf(r)
	if e != api.OK {
		return e
	}
	s, ok := m.spaces[id]
	if !ok {
		return api.ErrNoSpace
	}
	l, e := s.filling(va, length)
	if e != api.OK {
		return e
	}
	m.editor.Change(s.root, id, leaf, addresses(l)...)
	for i := range l {
		l[i].Leaf = leaf
	}
	s.keep(l)
	return api.OK
}

// refused: what is wrong with ranges of one length, whatever stands there.
func (m *Manager) refused(length uint64, vas ...uint32) api.Errno {
	if length == 0 {
		return api.ErrArg
	}
	for _, va := range vas {
		if va%api.FrameBytes != 0 || length%api.FrameBytes != 0 {
			return api.ErrAlign
		}
	}
	for _, va := range vas {
		if !m.inPart(va, length) {
			return api.ErrKernel
		}
	}
	return api.OK
}

// inPart: does a range end in the user's part? Its end is not summed up: it may be beyond 64 bits.
func (m *Manager) inPart(va uint32, length uint64) bool {
	return uint64(va) <= m.end && length <= m.end-uint64(va)
}
