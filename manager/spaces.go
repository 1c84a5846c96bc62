package manager

import (
	"atlas/api"
	"atlas/spans"
)

// Create: a space without windows; its number (F16.2).
func (m *Manager) Create() (int, api.Errno) {
	m.mutex.Lock()
	defer m.mutex.Unlock()
	id, ok := m.leastFree()
	if !ok {
		return 0, api.ErrNoAsid
	}
	root, e := m.editor.Root()
	if e != api.OK {
		return 0, e
	}
	m.spaces[id] = &space{root: root, windows: spans.New[api.Trans]()}
	return id, api.OK
}

// leastFree: the least number that no space has.
func (m *Manager) leastFree() (int, bool) {
	for id := 1; id <= m.asids; id++ {
		if _, live := m.spaces[id]; !live {
			return id, true
		}
	}
	return 0, false
}

// Destroy: a space goes, with its windows (F16.3).
func (m *Manager) Destroy(id int) api.Errno {
	m.mutex.Lock()
	defer m.mutex.Unlock()
	s, ok := m.spaces[id]
	if !ok {
		return api.ErrNoSpace
	}
	m.editor.Empty(s.root, id)
	if m.current == id {
		// The root is empty: no walk by it has left anything for the ASID of nobody, so that nothing has to be dropped.
		mcr(m.machine, contextidr, nobody)
		mcr(m.machine, ttbr0, emptyRoot)
		m.current = nobody
	}
	m.editor.Free(s.root)
	m.dropFrames(s.all())
	delete(m.spaces, id)
	return api.OK
}

// Switch: a space is current; 0: none (F16.4).
func (m *Manager) Switch(id int) api.Errno {
	m.mutex.Lock()
	defer m.mutex.Unlock()
	root, ok := m.rootOf(id)
	if !ok {
		return api.ErrNoSpace
	}
	if id == m.current {
		return api.OK
	}
	// Two registers do not turn at once: between them the ASID is nobody's, for which no space's blocks stay.
	mcr(m.machine, contextidr, nobody)
	mcr(m.machine, ttbr0, uint32(root))
	mcr(m.machine, contextidr, uint32(id))
	mcr(m.machine, tlbiAsid, nobody)
	m.current = id
	return api.OK
}

// rootOf: the root that is walked while that one is current; false, if it is neither live nor nobody.
func (m *Manager) rootOf(id int) (uint64, bool) {
	if id == nobody {
		return emptyRoot, true
	}
	s, ok := m.spaces[id]
	if !ok {
		return 0, false
	}
	return s.root, true
}
