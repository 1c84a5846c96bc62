package manager_test

import (
	"maps"
	"slices"
	"testing"

	"atlas/api"
	"atlas/manager"
	"atlas/walk"
)

var (
	none = api.Rights{}
	r    = api.Rights{Read: true}
	rw   = api.Rights{Read: true, Write: true}
	rx   = api.Rights{Read: true, Exec: true}
	rwx  = api.Rights{Read: true, Write: true, Exec: true}
)

// wrongRights: those that no permission bits give.
var wrongRights = []api.Rights{{Write: true}, {Exec: true}, {Write: true, Exec: true}}

// ordinary: that of the chapter's examples.
var ordinary = api.Config{Frames: 512, I: 2, D: 2, Main: 4, Asids: 3, N: 2}

// least: the least memory.
var least = api.Config{Frames: 256, I: 1, D: 1, Main: 1, Asids: 2, N: 2}

// great: two windows of the size Super fit in, and no third one.
var great = api.Config{Frames: 12288, I: 2, D: 2, Main: 2, Asids: 2, N: 2}

// desk: a manager and the model beside it; each call goes to both, and behind it all that can be looked at is held against the model.
type desk struct {
	t     *testing.T
	m     *manager.Manager
	x     *model
	last  []api.Event // of the last call
	quiet bool        // neither the memory nor each window is looked at behind each call
}

func newDesk(t *testing.T, c api.Config) *desk {
	t.Helper()
	m, e := manager.Boot(c)
	if e != api.OK || m == nil {
		t.Fatalf("Boot(%v): %d", c, e)
	}
	d := &desk{t: t, m: m, x: newModel(c)}
	d.behind("Boot")
	return d
}

// behind: what holds behind each call.
func (d *desk) behind(what ...any) {
	d.t.Helper()
	d.last = d.m.Machine().Events()
	var got []step
	drops := 0
	for _, e := range d.last {
		got = append(got, step{e.Kind, e.Addr, e.Value})
		if e.Kind == api.EvDrop {
			drops++
		}
	}
	if !slices.Equal(got, d.x.steps) {
		d.t.Fatalf("%v: the steps are %x, not %x", what, got, d.x.steps)
	}
	if drops > d.x.touched+1 {
		d.t.Fatalf("%v: %d drops, %d windows", what, drops, d.x.touched)
	}
	d.x.steps, d.x.touched = nil, 0
	if l := d.m.Spaces(); !slices.Equal(l, slices.Sorted(maps.Keys(d.x.spaces))) {
		d.t.Fatalf("%v: Spaces %v", what, l)
	}
	if id := d.m.Current(); id != d.x.current {
		d.t.Fatalf("%v: Current %d, not %d", what, id, d.x.current)
	}
	if n := d.m.Free(); n != d.x.pool.Free() {
		d.t.Fatalf("%v: Free %d, not %d", what, n, d.x.pool.Free())
	}
	d.clean(what...)
	if !d.quiet {
		is(d.t, "Free, frame by frame", d.m.Free(), d.x.free()) // P1606
		d.sameWindows(what...)
		d.sameMemory(what...)
	}
}

// clean: P1603.
func (d *desk) clean(what ...any) {
	d.t.Helper()
	m := d.m.Machine()
	if l := m.Dirty(); len(l) != 0 {
		d.t.Fatalf("%v leaves %+v", what, l)
	}
	if n := len(d.last); n > 0 && d.last[n-1].Dirty != 0 {
		d.t.Fatalf("%v: the last step tells %d dirts", what, d.last[n-1].Dirty)
	}
	for which := api.TlbI; which <= api.TlbMain; which++ {
		for _, s := range m.Places(which) {
			if !s.Full {
				continue
			}
			for asid := range 256 {
				c, judged := m.Judge(asid)
				if s.Block.Asid == asid && !judged {
					d.t.Fatalf("%v: %+v is kept, and nobody judges it", what, s.Block)
				}
				if judged && (s.Block.Asid == asid || s.Block.Asid == api.AnyAsid) && !walk.Same(m, c, s.Block.Trans) {
					d.t.Fatalf("%v: %+v is kept, and not found for %d", what, s.Block, asid)
				}
			}
		}
	}
}

// sameWindows: Windows of each space, and Query around each window.
func (d *desk) sameWindows(what ...any) {
	d.t.Helper()
	for id, s := range d.x.spaces {
		var want []api.Window
		for _, w := range s.rising() {
			want = append(want, d.x.told(w))
			for _, va := range []uint32{w.va - 1, w.va, w.va + 0xabc, uint32(w.end() - 1), uint32(w.end())} {
				d.query(id, va)
			}
		}
		if got, e := d.m.Windows(id); e != api.OK || !slices.Equal(got, want) {
			d.t.Fatalf("%v: Windows(%d) %+v %d, not %+v", what, id, got, e, want)
		}
	}
}

func (d *desk) query(id int, va uint32) (api.Window, api.Errno) {
	d.t.Helper()
	got, e := d.m.Query(id, va)
	want, err := d.x.query(id, va)
	if got != want || e != err {
		d.t.Fatalf("Query(%d, %#x) %+v %d, not %+v %d", id, va, got, e, want, err)
	}
	return got, e
}

// hold: an answer is the model's, and all behind it; with an error there was no step.
func (d *desk) hold(got, want api.Errno, what ...any) api.Errno {
	d.t.Helper()
	if got != want {
		d.t.Fatalf("%v answers %d, not %d", what, got, want)
	}
	d.behind(what...)
	if got != api.OK && len(d.last) != 0 {
		d.t.Fatalf("%v answers %d, and has stepped", what, got)
	}
	return got
}

// needed: P1604: behind the first step of the last call Dirty was not empty.
func (d *desk) needed(current, windows bool, what string) {
	d.t.Helper()
	if current && windows && d.last[0].Dirty == 0 {
		d.t.Fatalf("%s: nothing is dirty behind its first step", what)
	}
}

func (d *desk) Create() (int, api.Errno) {
	d.t.Helper()
	id, e := d.m.Create()
	want, err := d.x.create()
	if id != want {
		d.t.Fatalf("Create: %d, not %d", id, want)
	}
	return id, d.hold(e, err, "Create")
}

func (d *desk) Destroy(id int) api.Errno {
	d.t.Helper()
	current := id == d.x.current
	windows := d.x.spaces[id] != nil && len(d.x.spaces[id].pages) > 0
	e := d.hold(d.m.Destroy(id), d.x.destroy(id), "Destroy", id)
	d.needed(current, windows, "Destroy")
	return e
}

func (d *desk) Switch(id int) api.Errno {
	d.t.Helper()
	return d.hold(d.m.Switch(id), d.x.turn(id), "Switch", id)
}

func (d *desk) Map(id int, va uint32, size, count int, r api.Rights) api.Errno {
	d.t.Helper()
	return d.hold(d.m.Map(id, va, size, count, r), d.x.mapping(id, va, size, count, r), "Map", id, va, size, count, r)
}

func (d *desk) Unmap(id int, va uint32, length uint64) api.Errno {
	d.t.Helper()
	e := d.hold(d.m.Unmap(id, va, length), d.x.unmap(id, va, length), "Unmap", id, va, length)
	d.needed(id == d.x.current, e == api.OK, "Unmap")
	return e
}

func (d *desk) Protect(id int, va uint32, length uint64, r api.Rights) api.Errno {
	d.t.Helper()
	e := d.hold(d.m.Protect(id, va, length, r), d.x.protect(id, va, length, r), "Protect", id, va, length, r)
	d.needed(id == d.x.current, e == api.OK, "Protect")
	return e
}

func (d *desk) Share(to int, va uint32, from int, source uint32, length uint64, r api.Rights) api.Errno {
	d.t.Helper()
	got := d.m.Share(to, va, from, source, length, r)
	return d.hold(got, d.x.share(to, va, from, source, length, r), "Share", to, va, from, source, length, r)
}

func (d *desk) User(kind int, va uint32, n int, v uint32) api.Answer {
	d.t.Helper()
	got, e := d.m.User(kind, va, n, v)
	want, err := d.x.user(kind, va, n, v)
	if got != want {
		d.t.Fatalf("User(%d, %#x, %d, %#x) %+v, not %+v", kind, va, n, v, got, want)
	}
	d.hold(e, err, "User", kind, va, n, v)
	return got
}

// spaces: as many are made.
func (d *desk) spaces(n int) *desk {
	d.t.Helper()
	for range n {
		if _, e := d.Create(); e != api.OK {
			d.t.Fatal("Create", e)
		}
	}
	return d
}

// ok: a call that must not be refused.
func (d *desk) ok(e api.Errno) {
	d.t.Helper()
	if e != api.OK {
		d.t.Fatalf("error %d", e)
	}
}

// steps: those of the last call, told one by one.
func (d *desk) steps(what string, want ...step) {
	d.t.Helper()
	var got []step
	for _, e := range d.last {
		got = append(got, step{e.Kind, e.Addr, e.Value})
	}
	if !slices.Equal(got, want) {
		d.t.Fatalf("%s: the steps are %x, not %x", what, got, want)
	}
}
