package machine

import (
	"atlas/api"
	"atlas/attr"
	"atlas/cp15"
	"atlas/rights"
)

// The places in the word that PAR gets: of a fault its code above a bit that says so; else of the kind of memory, of a bit that says that it is a supersection, and of what such a one's address has beyond 32 bits.
const (
	parFault     = 1
	parCode      = 1
	parSuper     = 1 << 1
	parOuter     = 2
	parInner     = 4
	parShared    = 1 << 7
	parNear      = 1 << 10 // shared within the inner part alone
	parHigh      = 16
	parSuperBase = 0xFF000000
	parBase      = 0xFFFFF000
)

// The places of a fault's code in a status word.
const (
	statusCode     = 0xF
	statusHighCode = 10
	codeBits       = 4
)

// What PAR tells of the inner part of a memory that is not normal.
const (
	innerStrong = 1
	innerDevice = 3
)

// innerNormal: what PAR tells of the inner policy of normal memory.
var innerNormal = [4]uint32{
	api.CacheNone:      0,
	api.CacheBackAlloc: 5,
	api.CacheThrough:   6,
	api.CacheBack:      7,
}

// Mcr: a register is written, or an operation asked for; user: by a user (P1304).
func (m *Machine) Mcr(t api.Tuple, v uint32, user bool) api.Errno {
	// What is refused hangs on the tuple and the side alone, so any file tells it; this machine's own is not written ahead of the noise.
	if _, e := cp15.New().Write(t, !user, v); e != api.OK {
		return e
	}
	m.step(func(n api.Noise) (api.Event, bool) {
		act, _ := m.file.Write(t, !user, v)
		switch act.Kind {
		case api.ActTlbi:
			return m.drop(act.Tlbi), true
		case api.ActAt:
			return m.ask(act, n), false
		}
		return api.Event{Kind: api.EvReg, Addr: number(t), Value: v}, act.Kind == api.ActReg
	})
	return api.OK
}

// Mrc: what a register holds (P1305).
func (m *Machine) Mrc(t api.Tuple, user bool) (uint32, api.Errno) { return m.file.Read(t, !user) }

// number: a tuple as one.
func number(t api.Tuple) uint64 {
	return uint64(4096*t.CRn + 256*t.Op1 + 16*t.CRm + t.Op2)
}

// drop: what a dropping takes is in no TLB, and not known.
func (m *Machine) drop(d api.Tlbi) api.Event {
	m.tlbs.Drop(d)
	m.tracker.Drop(d)
	return api.Event{Kind: api.EvDrop, Addr: uint64(d.Kind), Value: d.Va + uint32(d.Asid)}
}

// ask: PAR tells what a translation comes to.
func (m *Machine) ask(act api.Act, n api.Noise) api.Event {
	kind := api.Load
	if act.Store {
		kind = api.Store
	}
	var w uint32
	f := faultOf(func() {
		t := m.translate(act.Va, !act.User, kind, n)
		w = placeOf(t, act.Va) | kindOf(t, m.Context())
	})
	if f.Kind != api.FNone {
		w = parFault | codeOf(f)<<parCode
	}
	m.file.Put(api.RegPAR, w)
	return api.Event{Kind: api.EvAt, Addr: uint64(act.Va), Value: w}
}

// codeOf: of a fault, as it stands in its status word.
func codeOf(f api.Fault) uint32 {
	w, _ := rights.Status(f, false)
	return w&statusCode | w>>statusHighCode&1<<codeBits
}

// placeOf: where an address of a block stands, as PAR tells it.
func placeOf(t api.Trans, va uint32) uint32 {
	p := physical(t, va)
	if t.Size == api.Super {
		return uint32(p)&parSuperBase | uint32(p>>32)<<parHigh | parSuper
	}
	return uint32(p) & parBase
}

// kindOf: what kind of memory a block is, as PAR tells it. Where the context is not On nothing is remapped; the bits of such a block are 0.
func kindOf(t api.Trans, c api.Context) uint32 {
	kind, e := attr.Of(c.On && c.TRE, c.PRRR, c.NMRR, t.Leaf.Bits)
	if e != api.OK {
		return 0
	}
	w := uint32(kind.Outer)<<parOuter | inner(kind)<<parInner
	if kind.Share != api.ShareNone {
		w |= parShared
	}
	if kind.Share == api.ShareInner {
		w |= parNear
	}
	return w
}

// inner: what PAR tells of the inner part of a kind.
func inner(kind api.Mem) uint32 {
	switch kind.Type {
	case api.MemStrong:
		return innerStrong
	case api.MemDevice:
		return innerDevice
	}
	return innerNormal[kind.Inner]
}
