package manager_test

import (
	"bytes"
	"maps"
	"slices"
	"testing"

	"atlas/api"
	"atlas/desc"
	"atlas/frames"
	"atlas/machine"
	"atlas/rights"
	"atlas/tables"
)

// step: an event, but for what is dirty behind it.
type step struct {
	kind  int
	addr  uint64
	value uint32
}

func poke(a uint64, w uint32) step { return step{api.EvPoke, a, w} }

func wipe(first, count int) step { return step{api.EvWipe, uint64(first), uint32(count)} }

func dropMva(w uint32) step { return step{api.EvDrop, api.TlbiMva, w} }

func dropAsid(asid int) step { return step{api.EvDrop, api.TlbiAsid, uint32(asid)} }

func setTtbr0(w uint32) step { return step{api.EvReg, 2 << 12, w} }

func setContext(id int) step { return step{api.EvReg, 13<<12 + 1, uint32(id)} }

// window: as the chapter says it.
type window struct {
	va     uint32
	size   int
	first  int
	rights api.Rights
}

func (w *window) end() uint64 { return uint64(w.va) + desc.Bytes(w.size) }

func (w *window) frames() int { return int(desc.Bytes(w.size) / 4096) }

// trans: its translation.
func (w *window) trans() api.Trans {
	leaf, _ := rights.Leaf(w.rights)
	t := api.Trans{Size: w.size, VA: w.va, PA: 4096 * uint64(w.first), Domain: 1, Leaf: leaf}
	if w.size == api.Super {
		t.Domain = 0
	}
	return t
}

// room: a space of the model: from pages to windows, page by page.
type room struct {
	root  uint64
	pages map[uint64]*window
}

// model: the map model (P1), in the chapter's words: page by page, and an access by the windows alone. Which frames and tables are in use, and the steps of the editor, it has of a pool and an editor of its own, over a machine that is never on; the steps are written into a memory of its own.
type model struct {
	c       api.Config
	pool    *frames.Pool
	editor  *tables.Editor
	mirror  *machine.Machine
	spaces  map[int]*room
	current int
	stands  map[int]int // by frames: how many windows stand on it
	memory  []byte
	steps   []step
	touched int // windows that the last call took away or changed
}

func newModel(c api.Config) *model {
	mirror, _ := machine.New(api.Config{Frames: c.Frames, I: 1, D: 1, Main: 1})
	pool, _ := frames.New(8, c.Frames-8)
	editor, _ := tables.New(mirror, pool, c.N)
	x := &model{c: c, pool: pool, editor: editor, mirror: mirror, spaces: map[int]*room{}, stands: map[int]int{}, memory: make([]byte, 4096*c.Frames)}
	for i := range uint32(c.Frames / 256) {
		x.write(4*(3072+uint64(i)), i<<20|0x141e, 4)
	}
	return x
}

func (x *model) write(pa uint64, v uint32, n int) {
	for i := range n {
		x.memory[pa+uint64(i)] = byte(v >> (8 * i))
	}
}

func (x *model) read(pa uint64, n int) uint32 {
	var v uint32
	for i := range n {
		v |= uint32(x.memory[pa+uint64(i)]) << (8 * i)
	}
	return v
}

// took: a step of the manager's own.
func (x *model) took(s step) {
	x.steps = append(x.steps, s)
	switch s.kind {
	case api.EvPoke:
		x.write(s.addr, s.value, 4)
	case api.EvWipe:
		clear(x.memory[4096*s.addr : 4096*(s.addr+uint64(s.value))])
	}
}

// edited: the steps of the editor.
func (x *model) edited(e api.Errno) {
	if e != api.OK {
		panic(e)
	}
	for _, s := range x.mirror.Events() {
		x.took(step{s.Kind, s.Addr, s.Value})
	}
}

func (x *model) end() uint64 { return 1 << (32 - x.c.N) }

func (x *model) create() (int, api.Errno) {
	for id := 1; id <= x.c.Asids; id++ {
		if x.spaces[id] != nil {
			continue
		}
		root, e := x.editor.Root()
		if e != api.OK {
			return 0, e
		}
		x.edited(e)
		x.spaces[id] = &room{root, map[uint64]*window{}}
		return id, api.OK
	}
	return 0, api.ErrNoAsid
}

func (x *model) destroy(id int) api.Errno {
	s := x.spaces[id]
	if s == nil {
		return api.ErrNoSpace
	}
	x.edited(x.editor.Empty(s.root, id))
	if x.current == id {
		x.took(setContext(0))
		x.took(setTtbr0(0x4000))
		x.current = 0
	}
	x.edited(x.editor.Free(s.root))
	for _, w := range s.rising() {
		x.strike(s, w)
		x.touched++
	}
	delete(x.spaces, id)
	return api.OK
}

func (x *model) turn(id int) api.Errno {
	root := uint64(0x4000)
	if id != 0 {
		if x.spaces[id] == nil {
			return api.ErrNoSpace
		}
		root = x.spaces[id].root
	}
	if id == x.current {
		return api.OK
	}
	x.took(setContext(0))
	x.took(setTtbr0(uint32(root)))
	x.took(setContext(id))
	x.took(dropAsid(0))
	x.current = id
	return api.OK
}

// rising: the windows of a space.
func (s *room) rising() []*window {
	var l []*window
	for _, p := range slices.Sorted(maps.Keys(s.pages)) {
		if w := s.pages[p]; len(l) == 0 || l[len(l)-1] != w {
			l = append(l, w)
		}
	}
	return l
}

// lay: a new window, whose frames have their use in the pool.
func (x *model) lay(s *room, w *window) {
	for i := range w.frames() {
		s.pages[uint64(w.va)/4096+uint64(i)] = w
		x.stands[w.first+i]++
	}
}

// strike: a window goes, and the uses of its frames.
func (x *model) strike(s *room, w *window) {
	x.pool.Drop(w.first, w.frames())
	for i := range w.frames() {
		delete(s.pages, uint64(w.va)/4096+uint64(i))
		x.stands[w.first+i]--
		if x.stands[w.first+i] == 0 {
			delete(x.stands, w.first+i)
		}
	}
}

func (s *room) meets(va, end uint64) bool {
	for p := va / 4096; p < end/4096; p++ {
		if s.pages[p] != nil {
			return true
		}
	}
	return false
}

func barred(r api.Rights) bool { return !r.Read && (r.Write || r.Exec) }

func (x *model) mapping(id int, va uint32, size, count int, r api.Rights) api.Errno {
	if size < 1 || size > 4 || count < 1 || count > 256 {
		return api.ErrArg
	}
	bytes := desc.Bytes(size)
	end := uint64(va) + uint64(count)*bytes
	s := x.spaces[id]
	switch {
	case uint64(va)%bytes != 0:
		return api.ErrAlign
	case end > x.end():
		return api.ErrKernel
	case barred(r):
		return api.ErrRights
	case s == nil:
		return api.ErrNoSpace
	case s.meets(uint64(va), end):
		return api.ErrOverlap
	}
	k := int(bytes / 4096)
	var l []*window
	var e api.Errno
	for i := 0; i < count && e == api.OK; i++ {
		var f int
		if f, e = x.pool.Take(k, k); e == api.OK {
			l = append(l, &window{va + uint32(i)*uint32(bytes), size, f, r})
		}
	}
	if e == api.OK {
		e = x.editor.Fits(s.root, translations(l)...)
	}
	for _, w := range l {
		if e == api.OK {
			x.took(wipe(w.first, k))
			x.lay(s, w)
		} else {
			x.pool.Drop(w.first, k)
		}
	}
	if e != api.OK {
		return e
	}
	x.edited(x.editor.Put(s.root, translations(l)...))
	return api.OK
}

func translations(l []*window) []api.Trans {
	var ts []api.Trans
	for _, w := range l {
		ts = append(ts, w.trans())
	}
	return ts
}

// wrong: ErrArg, ErrAlign and ErrKernel of ranges.
func (x *model) wrong(length uint64, vas ...uint32) api.Errno {
	if length == 0 {
		return api.ErrArg
	}
	for _, va := range vas {
		if va%4096 != 0 || length%4096 != 0 {
			return api.ErrAlign
		}
	}
	for _, va := range vas {
		if end := uint64(va) + length; end > x.end() || end < length {
			return api.ErrKernel
		}
	}
	return api.OK
}

// whole: the windows of a range.
func (s *room) whole(va uint32, length uint64) ([]*window, api.Errno) {
	var l []*window
	end := uint64(va) + length
	for p := uint64(va) / 4096; p < end/4096; p++ {
		w := s.pages[p]
		if w == nil {
			return nil, api.ErrUnmapped
		}
		if !slices.Contains(l[max(0, len(l)-1):], w) {
			l = append(l, w)
		}
	}
	for _, w := range l {
		if w.va < va || w.end() > end {
			return nil, api.ErrSplit
		}
	}
	return l, api.OK
}

func vas(l []*window) []uint32 {
	var out []uint32
	for _, w := range l {
		out = append(out, w.va)
	}
	return out
}

func (x *model) unmap(id int, va uint32, length uint64) api.Errno {
	if e := x.wrong(length, va); e != api.OK {
		return e
	}
	s := x.spaces[id]
	if s == nil {
		return api.ErrNoSpace
	}
	l, e := s.whole(va, length)
	if e != api.OK {
		return e
	}
	x.edited(x.editor.Cut(s.root, id, vas(l)...))
	for _, w := range l {
		x.strike(s, w)
	}
	x.touched = len(l)
	return api.OK
}

func (x *model) protect(id int, va uint32, length uint64, r api.Rights) api.Errno {
	if e := x.wrong(length, va); e != api.OK {
		return e
	}
	if barred(r) {
		return api.ErrRights
	}
	s := x.spaces[id]
	if s == nil {
		return api.ErrNoSpace
	}
	l, e := s.whole(va, length)
	if e != api.OK {
		return e
	}
	leaf, _ := rights.Leaf(r)
	x.edited(x.editor.Change(s.root, id, leaf, vas(l)...))
	for _, w := range l {
		w.rights = r
	}
	x.touched = len(l)
	return api.OK
}

func (x *model) share(to int, va uint32, from int, source uint32, length uint64, r api.Rights) api.Errno {
	if e := x.wrong(length, va, source); e != api.OK {
		return e
	}
	if barred(r) {
		return api.ErrRights
	}
	taker, giver := x.spaces[to], x.spaces[from]
	if taker == nil || giver == nil {
		return api.ErrNoSpace
	}
	l, e := giver.whole(source, length)
	if e != api.OK {
		return e
	}
	var twins []*window
	for _, w := range l {
		twins = append(twins, &window{va + (w.va - source), w.size, w.first, r})
	}
	if e := x.noTwins(taker, twins); e != api.OK {
		return e
	}
	for _, w := range twins {
		x.pool.Share(w.first, w.frames())
		x.lay(taker, w)
	}
	x.edited(x.editor.Put(taker.root, translations(twins)...))
	return api.OK
}

func (x *model) noTwins(taker *room, twins []*window) api.Errno {
	for _, w := range twins {
		if uint64(w.va)%desc.Bytes(w.size) != 0 {
			return api.ErrAlign
		}
	}
	more := map[int]int{}
	for _, w := range twins {
		if taker.meets(uint64(w.va), w.end()) {
			return api.ErrOverlap
		}
		for f := w.first; f < w.first+w.frames(); f++ {
			more[f]++
		}
	}
	for f, n := range more {
		if x.pool.Uses(f)+n > 255 {
			return api.ErrShared
		}
	}
	return x.editor.Fits(taker.root, translations(twins)...)
}

// told: a window as a manager tells it.
func (x *model) told(w *window) api.Window {
	return api.Window{VA: w.va, Size: w.size, Rights: w.rights, Uses: x.stands[w.first]}
}

func (x *model) query(id int, va uint32) (api.Window, api.Errno) {
	switch {
	case uint64(va) >= x.end():
		return api.Window{}, api.ErrKernel
	case x.spaces[id] == nil:
		return api.Window{}, api.ErrNoSpace
	case x.spaces[id].pages[uint64(va)/4096] == nil:
		return api.Window{}, api.ErrUnmapped
	}
	return x.told(x.spaces[id].pages[uint64(va)/4096]), api.OK
}

// free: how many frames of the pool are neither a root's, nor a table's, nor a window's.
func (x *model) free() int {
	used := map[int]bool{}
	for _, t := range x.editor.Tables() {
		used[t/4] = true
	}
	for _, s := range x.spaces {
		used[int(s.root/4096)] = true
		if x.c.N == 1 {
			used[int(s.root/4096)+1] = true
		}
	}
	for f := range x.stands {
		used[f] = true
	}
	return x.c.Frames - 8 - len(used)
}

func (x *model) user(kind int, va uint32, n int, v uint32) (api.Answer, api.Errno) {
	if kind < api.Fetch || kind > api.Store || n != 1 && n != 2 && n != 4 {
		return api.Answer{}, api.ErrArg
	}
	var a api.Answer
	a.Fault = x.fault(kind, va, n)
	if a.Fault.Kind == api.FNone {
		w := x.spaces[x.current].pages[uint64(va)/4096]
		pa := 4096*uint64(w.first) + uint64(va-w.va)
		if kind == api.Store {
			x.write(pa, v, n)
		} else {
			a.Value = x.read(pa, n)
		}
		x.took(step{api.EvAccess, uint64(va), 0})
		return a, api.OK
	}
	x.took(step{api.EvAccess, uint64(va), 1})
	return a, api.OK
}

// fault: of a user's access, by the windows of the current space alone (P1601).
func (x *model) fault(kind int, va uint32, n int) api.Fault {
	if va%uint32(n) != 0 {
		return api.Fault{Kind: api.FAlign}
	}
	if uint64(va) >= x.end() {
		if va >= 0xc0000000 && uint64(va-0xc0000000) < uint64(len(x.memory)) {
			return api.Fault{Kind: api.FPerm, Level: 1}
		}
		return api.Fault{Kind: api.FTrans1}
	}
	s := x.spaces[x.current]
	if s == nil {
		return api.Fault{Kind: api.FTrans1}
	}
	w := s.pages[uint64(va)/4096]
	if w == nil {
		for p := uint64(va) >> 20 * 256; p < (uint64(va)>>20+1)*256; p++ {
			if s.pages[p] != nil {
				return api.Fault{Kind: api.FTrans2, Domain: 1}
			}
		}
		return api.Fault{Kind: api.FTrans1}
	}
	given := map[int]bool{api.Load: w.rights.Read, api.Store: w.rights.Write, api.Fetch: w.rights.Exec}
	if given[kind] {
		return api.Fault{}
	}
	f := api.Fault{Kind: api.FPerm, Level: 2, Domain: 1}
	switch w.size {
	case api.Section:
		f.Level = 1
	case api.Super:
		f.Level, f.Domain = 1, 0
	}
	return f
}

// is: an answer, and what it should be.
func is[T comparable](t *testing.T, what string, got, want T) {
	t.Helper()
	if got != want {
		t.Fatalf("%s: %v, not %v", what, got, want)
	}
}

// sameMemory: all bytes of the machine are the model's.
func (d *desk) sameMemory(what ...any) {
	d.t.Helper()
	for f := range d.x.c.Frames {
		b, e := d.m.Machine().Frame(f)
		if e != api.OK {
			d.t.Fatal(f, e)
		}
		if want := d.x.memory[4096*f : 4096*f+4096]; !bytes.Equal(b, want) {
			for i := range b {
				if b[i] != want[i] {
					d.t.Fatalf("%v: the byte %#x is %#x, not %#x", what, 4096*f+i, b[i], want[i])
				}
			}
		}
	}
}
