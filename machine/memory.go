package machine

import "atlas/api"

// address: of a frame's first byte.
func address(frame int) uint64 { return uint64(frame) * api.FrameBytes }

// has: are all these frames, one at least, the memory's? Their end is not summed up: it may be beyond an int.
func (m *Machine) has(frame, count int) bool {
	return frame >= 0 && count <= m.Frames()-frame
}

// Poke: a word of the memory is written (P1303).
func (m *Machine) Poke(pa uint64, v uint32) api.Errno {
	if _, e := m.Word(pa); e != api.OK { // a write would be refused as the look is, but behind the noise
		return e
	}
	m.step(func(api.Noise) (api.Event, bool) {
		m.memory.SetWord(pa, v)
		return api.Event{Kind: api.EvPoke, Addr: pa, Value: v}, true
	})
	return api.OK
}

// Wipe: so many frames are filled with zeros (P1303).
func (m *Machine) Wipe(frame, count int) api.Errno {
	if count < 1 {
		return api.ErrArg
	}
	if !m.has(frame, count) {
		return api.ErrBus
	}
	m.step(func(api.Noise) (api.Event, bool) {
		for i := range count {
			m.memory.Wipe(frame + i)
		}
		return api.Event{Kind: api.EvWipe, Addr: uint64(frame), Value: uint32(count)}, true
	})
	return api.OK
}

// Copy: so many frames hold what others held (P1303).
func (m *Machine) Copy(from, to, count int) api.Errno {
	if count < 1 {
		return api.ErrArg
	}
	if !m.has(from, count) || !m.has(to, count) {
		return api.ErrBus
	}
	m.step(func(api.Noise) (api.Event, bool) {
		m.move(from, to, count)
		return api.Event{Kind: api.EvCopy, Addr: uint64(to), Value: uint32(count)}, true
	})
	return api.OK
}

// move: frame by frame, upwards the last one first, so that none is written over ahead of being read.
func (m *Machine) move(from, to, count int) {
	for i := range count {
		at := i
		if to > from {
			at = count - 1 - i
		}
		b, _ := m.Frame(from + at)
		m.memory.Write(address(to+at), b)
	}
}

// Fill: a frame holds these bytes (P1303).
func (m *Machine) Fill(frame int, b []byte) api.Errno {
	if len(b) != api.FrameBytes {
		return api.ErrArg
	}
	if !m.has(frame, 1) {
		return api.ErrBus
	}
	m.step(func(api.Noise) (api.Event, bool) {
		m.memory.Write(address(frame), b)
		return api.Event{Kind: api.EvFill, Addr: uint64(frame), Value: 1}, true
	})
	return api.OK
}
