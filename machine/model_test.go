package machine_test

import (
	"bytes"
	"slices"
	"testing"

	"atlas/api"
	"atlas/attr"
	"atlas/cp15"
	"atlas/hier"
	"atlas/machine"
	"atlas/rights"
	"atlas/stale"
	"atlas/walk"
)

// row: bytes one behind the other, as a memory.
type row []byte

func (r row) Word(pa uint64) (uint32, api.Errno) {
	if pa%4 != 0 {
		return 0, api.ErrAlign
	}
	return r.number(pa, 4)
}

// number: so many bytes, the lowest first.
func (r row) number(pa uint64, n int) (uint32, api.Errno) {
	if pa >= uint64(len(r)) {
		return 0, api.ErrBus
	}
	v := uint32(0)
	for i := n - 1; i >= 0; i-- {
		v = v<<8 | uint32(r[pa+uint64(i)])
	}
	return v, api.OK
}

func (r row) setNumber(pa uint64, n int, v uint32) {
	for i := range n {
		r[pa+uint64(i)] = byte(v)
		v >>= 8
	}
}

// model: a machine in the chapter's words: nothing is left out of a step, nothing gives up by panic.
type model struct {
	memory  row
	file    *cp15.File
	tlbs    *hier.Hier
	tracker *stale.Tracker
	waiting []api.Noise
	events  []api.Event
	n       api.Noise // of the step that is made
}

func newModel(c api.Config) *model {
	tlbs, e := hier.New(c.I, c.D, c.Main)
	if e != api.OK {
		panic(e)
	}
	return &model{memory: make(row, c.Frames*4096), file: cp15.New(), tlbs: tlbs, tracker: stale.New()}
}

func (o *model) step(call func() api.Event) {
	o.n = api.Noise{}
	if len(o.waiting) > 0 {
		o.n = o.waiting[0]
		o.waiting = slices.Clone(o.waiting[1:])
	}
	n, c := o.n, o.file.Context()
	if n.Act == 1 {
		o.tlbs.Evict(n.Which, n.Slot)
	}
	if n.Act == 2 && c.On {
		_, found := o.tlbs.Find(n.VA, c.Asid, n.Fetch, n.Pick, n.MainFirst)
		t, f := walk.Walk(o.memory, c, n.VA)
		if found == 0 && f == (api.Fault{}) {
			o.tlbs.Keep(modelBlock(c, t), n.VA, c.Asid, n.Fetch, n.Pick)
		}
	}
	e := call()
	o.tracker.See(o.memory, o.file.Context())
	e.Dirty = len(o.tracker.Dirty(o.memory))
	if len(o.events) < 65536 {
		o.events = append(o.events, e)
	}
}

// modelBlock: the block of a translation, by a context.
func modelBlock(c api.Context, t api.Trans) api.Block {
	if t.Leaf.NG {
		return api.Block{Asid: c.Asid, Trans: t}
	}
	return api.Block{Asid: -1, Trans: t}
}

// translate: the physical address, the translation (the zero one where the context is not On), the fault.
func (o *model) translate(va uint32, kind int, priv bool) (uint64, api.Trans, api.Fault) {
	c := o.file.Context()
	if !c.On {
		return uint64(va), api.Trans{}, api.Fault{}
	}
	b, found := o.tlbs.Find(va, c.Asid, kind == api.Fetch, o.n.Pick, o.n.MainFirst)
	if found == 2 {
		return 0, api.Trans{}, api.Fault{Kind: api.FConflict}
	}
	t := b.Trans
	if found == 0 {
		var f api.Fault
		if t, f = walk.Walk(o.memory, c, va); f != (api.Fault{}) {
			return 0, api.Trans{}, f
		}
		o.tlbs.Keep(modelBlock(c, t), va, c.Asid, kind == api.Fetch, o.n.Pick)
	}
	if f := rights.Check(t, c, priv, kind); f != (api.Fault{}) {
		return 0, api.Trans{}, f
	}
	return t.PA + uint64(va) - uint64(t.VA), t, api.Fault{}
}

func (o *model) Do(a api.Access) (api.Answer, api.Errno) {
	if a.Kind < 1 || a.Kind > 3 || !slices.Contains([]int{1, 2, 4}, a.Bytes) {
		return api.Answer{}, api.ErrArg
	}
	var answer api.Answer
	o.step(func() api.Event {
		answer = o.access(a)
		e := api.Event{Kind: 4, Addr: uint64(a.VA)}
		if answer.Fault == (api.Fault{}) {
			return e
		}
		e.Value = 1
		w, _ := rights.Status(answer.Fault, a.Kind == api.Store)
		if a.Kind == api.Fetch {
			o.file.Put(api.RegIFSR, w)
			o.file.Put(api.RegIFAR, a.VA)
		} else {
			o.file.Put(api.RegDFSR, w)
			o.file.Put(api.RegDFAR, a.VA)
		}
		return e
	})
	return answer, api.OK
}

func (o *model) access(a api.Access) api.Answer {
	if int(a.VA)%a.Bytes != 0 {
		return api.Answer{Fault: api.Fault{Kind: api.FAlign}}
	}
	pa, _, f := o.translate(a.VA, a.Kind, a.Priv)
	if f != (api.Fault{}) {
		return api.Answer{Fault: f}
	}
	v, e := o.memory.number(pa, a.Bytes)
	if e != api.OK {
		return api.Answer{Fault: api.Fault{Kind: api.FBus}}
	}
	if a.Kind == api.Store {
		o.memory.setNumber(pa, a.Bytes, a.Value)
		return api.Answer{}
	}
	return api.Answer{Value: v}
}

func (o *model) Poke(pa uint64, v uint32) api.Errno {
	if _, e := o.memory.Word(pa); e != api.OK {
		return e
	}
	o.step(func() api.Event {
		o.memory.setNumber(pa, 4, v)
		return api.Event{Kind: 1, Addr: pa, Value: v}
	})
	return api.OK
}

// frames: the bytes of count frames; none, if one is none of the memory's.
func (o *model) frames(frame, count int) []byte {
	all := len(o.memory) / 4096
	if frame < 0 || frame >= all || count > all || frame+count > all {
		return nil
	}
	return o.memory[frame*4096 : (frame+count)*4096]
}

func (o *model) Wipe(frame, count int) api.Errno {
	if count < 1 {
		return api.ErrArg
	}
	b := o.frames(frame, count)
	if b == nil {
		return api.ErrBus
	}
	o.step(func() api.Event {
		clear(b)
		return api.Event{Kind: 5, Addr: uint64(frame), Value: uint32(count)}
	})
	return api.OK
}

func (o *model) Copy(from, to, count int) api.Errno {
	if count < 1 {
		return api.ErrArg
	}
	source, goal := o.frames(from, count), o.frames(to, count)
	if source == nil || goal == nil {
		return api.ErrBus
	}
	o.step(func() api.Event {
		copy(goal, bytes.Clone(source))
		return api.Event{Kind: 7, Addr: uint64(to), Value: uint32(count)}
	})
	return api.OK
}

func (o *model) Fill(frame int, b []byte) api.Errno {
	if len(b) != 4096 {
		return api.ErrArg
	}
	goal := o.frames(frame, 1)
	if goal == nil {
		return api.ErrBus
	}
	o.step(func() api.Event {
		copy(goal, b)
		return api.Event{Kind: 8, Addr: uint64(frame), Value: 1}
	})
	return api.OK
}

func (o *model) Mcr(t api.Tuple, v uint32, user bool) api.Errno {
	if _, e := cp15.New().Write(t, !user, v); e != api.OK {
		return e
	}
	o.step(func() api.Event {
		act, _ := o.file.Write(t, !user, v)
		switch act.Kind {
		case api.ActTlbi:
			o.tlbs.Drop(act.Tlbi)
			o.tracker.Drop(act.Tlbi)
			return api.Event{Kind: 3, Addr: uint64(act.Tlbi.Kind), Value: act.Tlbi.Va + uint32(act.Tlbi.Asid)}
		case api.ActAt:
			kind := map[bool]int{false: api.Load, true: api.Store}[act.Store]
			pa, trans, f := o.translate(act.Va, kind, !act.User)
			w := parWord(o.file.Context(), pa, trans, f)
			o.file.Put(api.RegPAR, w)
			return api.Event{Kind: 6, Addr: uint64(act.Va), Value: w}
		}
		return api.Event{Kind: 2, Addr: uint64(t.CRn<<12 + t.Op1<<8 + t.CRm<<4 + t.Op2), Value: v}
	})
	return api.OK
}

// codes: of faults (chapter 7), by kind and level.
var codes = map[[2]int]uint32{
	{api.FAlign, 0}: 1, {api.FWalk1, 0}: 12, {api.FWalk2, 0}: 14, {api.FTrans1, 0}: 5, {api.FTrans2, 0}: 7,
	{api.FAccess, 1}: 3, {api.FAccess, 2}: 6, {api.FDomain, 1}: 9, {api.FDomain, 2}: 11, {api.FPerm, 1}: 13, {api.FPerm, 2}: 15,
	{api.FBus, 0}: 8, {api.FConflict, 0}: 16,
}

// parWord: the word in PAR.
func parWord(c api.Context, pa uint64, t api.Trans, f api.Fault) uint32 {
	if f != (api.Fault{}) {
		return 1 + 2*codes[[2]int{f.Kind, f.Level}]
	}
	w := uint32(pa/4096%(1<<20)) * 4096
	if t.Size == api.Super {
		w = uint32(pa/(1<<24)%(1<<8))<<24 + uint32(pa/(1<<32)%(1<<8))<<16 + 2
	}
	kind, e := attr.Of(c.TRE, c.PRRR, c.NMRR, t.Leaf.Bits)
	if !c.On {
		kind, e = attr.Of(false, 0, 0, 0)
	}
	if e != api.OK {
		return w
	}
	w += uint32(kind.Outer) * 4
	switch kind.Type {
	case api.MemStrong:
		w += 1 * 16
	case api.MemDevice:
		w += 3 * 16
	case api.MemNormal:
		w += map[int]uint32{api.CacheNone: 0, api.CacheBackAlloc: 5, api.CacheThrough: 6, api.CacheBack: 7}[kind.Inner] * 16
	}
	switch kind.Share {
	case api.ShareOuter:
		w += 128
	case api.ShareInner:
		w += 128 + 1024
	}
	return w
}

func (o *model) Noise(l []api.Noise) api.Errno {
	if len(o.waiting)+len(l) > 4096 {
		return api.ErrArg
	}
	o.waiting = append(slices.Clone(o.waiting), l...)
	return api.OK
}

func (o *model) Events() []api.Event {
	l := o.events
	o.events = nil
	return l
}

// both: a machine and its model, given the same calls.
type both struct {
	t *testing.T
	m *machine.Machine
	o *model
}

func newBoth(t *testing.T, c api.Config) *both {
	t.Helper()
	m, e := machine.New(c)
	if e != api.OK {
		t.Fatal(c, e)
	}
	return &both{t: t, m: m, o: newModel(c)}
}

// agree: the two answers to one call.
func agree[A comparable](b *both, what string, args any, got, want A) {
	b.t.Helper()
	if got != want {
		b.t.Fatalf("%s %+v: %+v, not %+v", what, args, got, want)
	}
}

func (b *both) do(a api.Access) api.Answer {
	b.t.Helper()
	got, e := b.m.Do(a)
	want, no := b.o.Do(a)
	agree(b, "Do", a, e, no)
	agree(b, "Do", a, got, want)
	return got
}

func (b *both) poke(pa uint64, v uint32) api.Errno {
	b.t.Helper()
	e := b.m.Poke(pa, v)
	agree(b, "Poke", []uint64{pa, uint64(v)}, e, b.o.Poke(pa, v))
	return e
}

func (b *both) wipe(frame, count int) api.Errno {
	b.t.Helper()
	e := b.m.Wipe(frame, count)
	agree(b, "Wipe", []int{frame, count}, e, b.o.Wipe(frame, count))
	return e
}

func (b *both) copy(from, to, count int) api.Errno {
	b.t.Helper()
	e := b.m.Copy(from, to, count)
	agree(b, "Copy", []int{from, to, count}, e, b.o.Copy(from, to, count))
	return e
}

func (b *both) fill(frame int, l []byte) api.Errno {
	b.t.Helper()
	e := b.m.Fill(frame, l)
	agree(b, "Fill", []int{frame, len(l)}, e, b.o.Fill(frame, l))
	return e
}

func (b *both) mcr(t api.Tuple, v uint32, user bool) api.Errno {
	b.t.Helper()
	e := b.m.Mcr(t, v, user)
	agree(b, "Mcr", []any{t, v, user}, e, b.o.Mcr(t, v, user))
	return e
}

func (b *both) noise(l ...api.Noise) api.Errno {
	b.t.Helper()
	e := b.m.Noise(l)
	agree(b, "Noise", len(l), e, b.o.Noise(l))
	return e
}

// same: all looks, but at the bytes.
func (b *both) same(what any) {
	b.t.Helper()
	if got := b.m.Left(); got != len(b.o.waiting) {
		b.t.Fatalf("%v: Left %d, not %d", what, got, len(b.o.waiting))
	}
	for reg := -1; reg <= api.Registers; reg++ {
		want, _ := b.o.file.Get(reg)
		if got := b.m.Reg(reg); got != want {
			b.t.Fatalf("%v: Reg %d: %#x, not %#x", what, reg, got, want)
		}
	}
	if got, want := b.m.Context(), b.o.file.Context(); got != want {
		b.t.Fatalf("%v: Context %+v, not %+v", what, got, want)
	}
	for which := -1; which <= 4; which++ {
		if got, want := b.m.Places(which), b.o.tlbs.Places(which); !slices.Equal(got, want) {
			b.t.Fatalf("%v: Places(%d)\n%+v, not\n%+v", what, which, got, want)
		}
	}
	if got, want := b.m.Known(), b.o.tracker.Known(); !slices.Equal(got, want) {
		b.t.Fatalf("%v: Known\n%+v, not\n%+v", what, got, want)
	}
	if got, want := b.m.Dirty(), b.o.tracker.Dirty(b.o.memory); !slices.Equal(got, want) {
		b.t.Fatalf("%v: Dirty\n%+v, not\n%+v", what, got, want)
	}
	for asid := -1; asid <= 4; asid++ {
		got, is := b.m.Judge(asid)
		if want, has := b.o.tracker.Judge(asid); got != want || is != has {
			b.t.Fatalf("%v: Judge(%d) %+v %v, not %+v %v", what, asid, got, is, want, has)
		}
	}
}

// sameEvents: those since they were asked last.
func (b *both) sameEvents(what any) []api.Event {
	b.t.Helper()
	got, want := b.m.Events(), b.o.Events()
	if !slices.Equal(got, want) {
		b.t.Fatalf("%v: Events\n%+v, not\n%+v", what, got, want)
	}
	return got
}

// sameBytes: of the whole memory.
func (b *both) sameBytes(what any) {
	b.t.Helper()
	if got := all(b.t, b.m); !bytes.Equal(got, b.o.memory) {
		at := 0
		for got[at] == b.o.memory[at] {
			at++
		}
		b.t.Fatalf("%v: the byte at %#x is %#x, not %#x", what, at, got[at], b.o.memory[at])
	}
}

// all: the bytes of a machine's memory.
func all(t *testing.T, m *machine.Machine) []byte {
	t.Helper()
	var l []byte
	for i := range m.Frames() {
		b, e := m.Frame(i)
		if e != api.OK || len(b) != 4096 {
			t.Fatal(i, len(b), e)
		}
		l = append(l, b...)
	}
	return l
}
