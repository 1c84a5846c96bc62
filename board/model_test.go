package board_test

import (
	"fmt"
	"maps"
	"slices"
	"strings"

	"atlas/frames"
)

// order: a line to a managed board, by its parts.
type order struct {
	verb, name, other  string
	va, from, length   uint64
	size, rights, mark string
	count, bytes       int
	value              uint32
}

// window: of the map model.
type window struct {
	va     uint64
	size   string
	first  int // of its frames
	rights string
}

var sizes = map[string]uint64{"4k": 1 << 12, "64k": 1 << 16, "1m": 1 << 20, "16m": 1 << 24}

func (w *window) length() uint64 { return sizes[w.size] }

func (w *window) frames() int { return int(w.length() / 4096) }

// space: of the map model: from pages to windows; and which MiB have a table.
type space struct {
	id, root int
	pages    map[uint64]*window
	tables   map[uint64]int
}

// model: the map model (P1), which replies to orders: neither tables nor TLBs nor registers, but only how many frames and tables are in use.
type model struct {
	frames, asids, n int
	pool             *frames.Pool
	slab             *frames.Slab
	spaces           map[string]*space
	current          *space
	memory           []byte
}

func newModel(count, asids, n int) *model {
	pool, _ := frames.New(8, count-8)
	slab, _ := frames.NewSlab(pool)
	return &model{frames: count, asids: asids, n: n, pool: pool, slab: slab, spaces: map[string]*space{}, memory: make([]byte, 4096*count)}
}

func (x *model) end() uint64 { return 1 << (32 - x.n) }

func (x *model) reply(o order) string {
	switch o.verb {
	case "create":
		return x.create(o.name)
	case "spaces":
		return x.tell()
	case "load", "store", "fetch":
		return x.access(o)
	}
	s, other := x.spaces[o.name], x.spaces[o.other]
	if s == nil && (o.verb != "switch" || o.name != "") || o.verb == "share" && other == nil {
		return "error 161"
	}
	switch o.verb {
	case "destroy":
		return x.destroy(o.name)
	case "switch":
		x.current = s
		return "ok"
	case "map":
		return x.mapping(s, o)
	case "unmap":
		return x.unmap(s, o)
	case "protect":
		return x.protect(s, o)
	case "share":
		return x.share(s, other, o)
	case "query":
		return x.query(s, o.va)
	}
	panic(o.verb)
}

func (x *model) create(name string) string {
	if x.spaces[name] != nil {
		return "error 166"
	}
	used := map[int]bool{}
	for _, s := range x.spaces {
		used[s.id] = true
	}
	id := 1
	for used[id] {
		id++
	}
	if id > x.asids {
		return "error 162"
	}
	root, e := x.pool.Take(x.rootFrames(), x.rootFrames())
	if e != 0 {
		return errno(int(e))
	}
	x.spaces[name] = &space{id, root, map[uint64]*window{}, map[uint64]int{}}
	return fmt.Sprint("ok ", id)
}

func (x *model) rootFrames() int {
	if x.n == 1 {
		return 2
	}
	return 1
}

func (x *model) destroy(name string) string {
	s := x.spaces[name]
	for _, w := range s.windows() {
		x.strike(s, w)
	}
	x.pool.Drop(s.root, x.rootFrames())
	delete(x.spaces, name)
	if x.current == s {
		x.current = nil
	}
	return "ok"
}

// windows: of a space, rising.
func (s *space) windows() []*window {
	var l []*window
	for _, p := range slices.Sorted(maps.Keys(s.pages)) {
		if len(l) == 0 || l[len(l)-1] != s.pages[p] {
			l = append(l, s.pages[p])
		}
	}
	return l
}

func (w *window) isPage() bool { return w.size == "4k" || w.size == "64k" }

// lay: new windows, whose frames have their uses already; false, and nothing has changed, if a table would be missing.
func (x *model) lay(s *space, l []*window) bool {
	took := map[uint64]int{}
	for _, w := range l {
		meg := w.va >> 20
		if _, stands := s.tables[meg]; stands || took[meg] != 0 || !w.isPage() {
			continue
		}
		table, e := x.slab.Take()
		if e != 0 {
			for _, table := range took {
				x.slab.Drop(table)
			}
			return false
		}
		took[meg] = table
	}
	maps.Copy(s.tables, took)
	for _, w := range l {
		for p := w.va; p < w.va+w.length(); p += 4096 {
			s.pages[p/4096] = w
		}
	}
	return true
}

// strike: a window goes, and its MiB's table with the last one.
func (x *model) strike(s *space, w *window) {
	for p := w.va; p < w.va+w.length(); p += 4096 {
		delete(s.pages, p/4096)
	}
	x.pool.Drop(w.first, w.frames())
	if meg := w.va >> 20; w.isPage() && !s.meets(meg<<20, 1<<20) {
		x.slab.Drop(s.tables[meg])
		delete(s.tables, meg)
	}
}

// meets: lies a page of a range in a window?
func (s *space) meets(va, length uint64) bool {
	for p := va; p < va+length; p += 4096 {
		if s.pages[p/4096] != nil {
			return true
		}
	}
	return false
}

func barred(rights string) bool { return rights[0] == '-' && rights != "---" }

func (x *model) mapping(s *space, o order) string {
	bytes := sizes[o.size]
	switch {
	case o.count < 1 || o.count > 256:
		return "error 1"
	case o.va%bytes != 0:
		return "error 2"
	case o.va+uint64(o.count)*bytes > x.end():
		return "error 160"
	case barred(o.rights):
		return "error 71"
	case s.meets(o.va, uint64(o.count)*bytes):
		return "error 163"
	}
	var l []*window
	fits := true
	for i := 0; i < o.count && fits; i++ {
		k := int(bytes / 4096)
		first, e := x.pool.Take(k, k)
		fits = e == 0
		if fits {
			l = append(l, &window{o.va + uint64(i)*bytes, o.size, first, o.rights})
		}
	}
	if !fits || !x.lay(s, l) {
		for _, w := range l {
			x.pool.Drop(w.first, w.frames())
		}
		return "error 42"
	}
	for _, w := range l {
		clear(x.memory[4096*w.first : 4096*(w.first+w.frames())])
	}
	return "ok"
}

// wrong: of ranges of one length, whatever stands there.
func (x *model) wrong(length uint64, vas ...uint64) string {
	if length == 0 {
		return "error 1"
	}
	for _, va := range vas {
		if va%4096 != 0 || length%4096 != 0 {
			return "error 2"
		}
	}
	for _, va := range vas {
		if va+length > x.end() {
			return "error 160"
		}
	}
	return ""
}

// whole: the windows that fill a range.
func (s *space) whole(va, length uint64) ([]*window, string) {
	var l []*window
	for p := va; p < va+length; p += 4096 {
		w := s.pages[p/4096]
		if w == nil {
			return nil, "error 164"
		}
		if len(l) == 0 || l[len(l)-1] != w {
			l = append(l, w)
		}
	}
	for _, w := range l {
		if w.va < va || w.va+w.length() > va+length {
			return nil, "error 165"
		}
	}
	return l, ""
}

func (x *model) unmap(s *space, o order) string {
	if e := x.wrong(o.length, o.va); e != "" {
		return e
	}
	l, e := s.whole(o.va, o.length)
	if e != "" {
		return e
	}
	for _, w := range l {
		x.strike(s, w)
	}
	return "ok"
}

func (x *model) protect(s *space, o order) string {
	if e := x.wrong(o.length, o.va); e != "" {
		return e
	}
	if barred(o.rights) {
		return "error 71"
	}
	l, e := s.whole(o.va, o.length)
	if e != "" {
		return e
	}
	for _, w := range l {
		w.rights = o.rights
	}
	return "ok"
}

func (x *model) share(to, from *space, o order) string {
	if e := x.wrong(o.length, o.va, o.from); e != "" {
		return e
	}
	if barred(o.rights) {
		return "error 71"
	}
	l, e := from.whole(o.from, o.length)
	if e != "" {
		return e
	}
	var twins []*window
	for _, w := range l {
		twins = append(twins, &window{o.va + (w.va - o.from), w.size, w.first, o.rights})
		if twins[len(twins)-1].va%w.length() != 0 {
			return "error 2"
		}
	}
	if to.meets(o.va, o.length) {
		return "error 163"
	}
	more := map[int]int{}
	for _, w := range twins {
		more[w.first]++
		if x.pool.Uses(w.first)+more[w.first] > 255 {
			return "error 167"
		}
	}
	if !x.lay(to, twins) {
		return "error 42"
	}
	for _, w := range twins {
		x.pool.Share(w.first, w.frames())
	}
	return "ok"
}

func (x *model) query(s *space, va uint64) string {
	if va >= x.end() {
		return "error 160"
	}
	w := s.pages[va/4096]
	if w == nil {
		return "error 164"
	}
	return fmt.Sprintf("ok 0x%x %s %s %d", w.va, w.size, w.rights, x.pool.Uses(w.first))
}

// tell: the reply to spaces.
func (x *model) tell() string {
	names := slices.SortedFunc(maps.Keys(x.spaces), func(a, b string) int { return x.spaces[a].id - x.spaces[b].id })
	for i, name := range names {
		if x.spaces[name] == x.current {
			names[i] += "*"
		}
	}
	return strings.Join(append([]string{"ok"}, names...), " ")
}

func (x *model) access(o order) string {
	if o.mark != "" {
		return "error 150"
	}
	if o.bytes != 1 && o.bytes != 2 && o.bytes != 4 {
		return "error 1"
	}
	if f := x.fault(o); f != "" {
		return fmt.Sprintf("fault %s at 0x%x", f, o.va)
	}
	w := x.current.pages[o.va/4096]
	at := 4096*uint64(w.first) + o.va - w.va
	var v uint32
	for i := range o.bytes {
		if o.verb == "store" {
			x.memory[at+uint64(i)] = byte(o.value >> (8 * i))
		}
		v |= uint32(x.memory[at+uint64(i)]) << (8 * i)
	}
	if o.verb == "store" {
		return "ok"
	}
	return fmt.Sprintf("ok 0x%x", v)
}

// fault: of a user's access, by the windows of the current space alone; the empty text, if there is none.
func (x *model) fault(o order) string {
	switch {
	case o.va%uint64(o.bytes) != 0:
		return "alignment"
	case o.va >= 0xc0000000 && o.va < 0xc0000000+4096*uint64(x.frames):
		return "permission 1 domain 0"
	case o.va >= x.end() || x.current == nil:
		return "translation 1"
	}
	w := x.current.pages[o.va/4096]
	if w == nil {
		if _, stands := x.current.tables[o.va>>20]; stands {
			return "translation 2 domain 1"
		}
		return "translation 1"
	}
	if strings.Contains(w.rights, map[string]string{"load": "r", "store": "w", "fetch": "x"}[o.verb]) {
		return ""
	}
	return map[string]string{"4k": "permission 2 domain 1", "64k": "permission 2 domain 1", "1m": "permission 1 domain 1", "16m": "permission 1 domain 0"}[w.size]
}
