package machine

import (
	"atlas/api"
	"atlas/rights"
	"atlas/walk"
)

// stop: what an access gives up with, by panic.
type stop struct{ fault api.Fault }

// faultOf: the fault at which something gave up; none, if it came to its end.
func faultOf(something func()) (f api.Fault) {
	defer func() {
		if r := recover(); r != nil {
			f = r.(stop).fault
		}
	}()
	something()
	return api.Fault{}
}

// stopAt: gives up, if it is a fault.
func stopAt(f api.Fault) {
	if f.Kind != api.FNone {
		panic(stop{f})
	}
}

// Do: an access (P1302).
func (m *Machine) Do(a api.Access) (api.Answer, api.Errno) {
	if !isAccess(a) {
		return api.Answer{}, api.ErrArg
	}
	var answer api.Answer
	m.step(func(n api.Noise) (api.Event, bool) {
		answer.Fault = faultOf(func() { answer.Value = m.access(a, n) })
		e := api.Event{Kind: api.EvAccess, Addr: uint64(a.VA)}
		if answer.Fault.Kind != api.FNone {
			m.tell(a, answer.Fault)
			e.Value = 1
			return e, false
		}
		return e, a.Kind == api.Store
	})
	return answer, api.OK
}

// isAccess: is there such a kind, and such a number of bytes?
func isAccess(a api.Access) bool {
	switch a.Kind {
	case api.Fetch, api.Load, api.Store:
		return a.Bytes == 1 || a.Bytes == 2 || a.Bytes == 4
	}
	return false
}

// access: what is read, or 0 where it is written.
func (m *Machine) access(a api.Access, n api.Noise) uint32 {
	if a.VA%uint32(a.Bytes) != 0 {
		stopAt(api.Fault{Kind: api.FAlign})
	}
	t := m.translate(a.VA, a.Priv, a.Kind, n)
	v, e := m.reach(a, physical(t, a.VA))
	if e != api.OK {
		stopAt(api.Fault{Kind: api.FBus})
	}
	return v
}

// translate: the translation of an address, if an access of that kind may go there.
func (m *Machine) translate(va uint32, priv bool, kind int, n api.Noise) api.Trans {
	t := m.find(va, kind == api.Fetch, n)
	stopAt(rights.Check(t, m.Context(), priv, kind))
	return t
}

// find: the translation that the TLBs have for an address, or else the walk, whose block is kept then.
func (m *Machine) find(va uint32, fetch bool, n api.Noise) api.Trans {
	c := m.Context()
	if !c.On {
		return m.walk(c, va)
	}
	b, matches := m.tlbs.Find(va, c.Asid, fetch, n.Pick, n.MainFirst)
	switch matches {
	case 0:
		b = blockOf(m.walk(c, va), c.Asid)
		m.tlbs.Keep(b, va, c.Asid, fetch, n.Pick)
	case 2:
		stopAt(api.Fault{Kind: api.FConflict})
	}
	return b.Trans
}

// walk: the translation that the tables have for an address.
func (m *Machine) walk(c api.Context, va uint32) api.Trans {
	t, f := walk.Walk(m.memory, c, va)
	stopAt(f)
	return t
}

// blockOf: the block of a translation that was found for an ASID.
func blockOf(t api.Trans, asid int) api.Block {
	if !t.Leaf.NG {
		asid = api.AnyAsid
	}
	return api.Block{Asid: asid, Trans: t}
}

// physical: where an address of a block stands.
func physical(t api.Trans, va uint32) uint64 { return t.PA + uint64(va-t.VA) }

// reach: the access at its physical address; an error, where there is no memory.
func (m *Machine) reach(a api.Access, pa uint64) (uint32, api.Errno) {
	if a.Kind == api.Store {
		return 0, m.store(pa, a.Bytes, a.Value)
	}
	return m.load(pa, a.Bytes)
}

func (m *Machine) load(pa uint64, bytes int) (uint32, api.Errno) {
	switch bytes {
	case 1:
		v, e := m.memory.Byte(pa)
		return uint32(v), e
	case 2:
		v, e := m.memory.Half(pa)
		return uint32(v), e
	}
	return m.memory.Word(pa)
}

func (m *Machine) store(pa uint64, bytes int, v uint32) api.Errno {
	switch bytes {
	case 1:
		return m.memory.SetByte(pa, uint8(v))
	case 2:
		return m.memory.SetHalf(pa, uint16(v))
	}
	return m.memory.SetWord(pa, v)
}

// tell: the fault of an access goes into the registers of its side.
func (m *Machine) tell(a api.Access, f api.Fault) {
	status, at := api.RegDFSR, api.RegDFAR
	if a.Kind == api.Fetch {
		status, at = api.RegIFSR, api.RegIFAR
	}
	w, _ := rights.Status(f, a.Kind == api.Store)
	m.file.Put(status, w)
	m.file.Put(at, a.VA)
}
