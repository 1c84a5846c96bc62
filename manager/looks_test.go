package manager_test

import (
	"slices"
	"testing"

	"atlas/api"
	"atlas/desc"
)

// TestQuery: F16.9: at a window's first and last byte, and right beyond, of each size.
func TestQuery(t *testing.T) {
	for _, s := range sizes {
		d := newDesk(t, great).spaces(1)
		d.quiet = true
		bytes := uint32(desc.Bytes(s.size))
		d.ok(d.Map(1, bytes, s.size, 1, rx))
		want := api.Window{VA: bytes, Size: s.size, Rights: rx, Uses: 1}
		for _, va := range []uint32{bytes, bytes + 1, bytes + bytes/2, 2*bytes - 1} {
			w, e := d.query(1, va)
			is(t, "Query", e, api.OK)
			is(t, "Query", w, want)
		}
		for _, va := range []uint32{0, bytes - 1, 2 * bytes, 0x3fffffff} {
			w, e := d.query(1, va)
			is(t, "Query", e, api.ErrUnmapped)
			is(t, "Query", w, api.Window{})
		}
		if l, e := d.m.Windows(1); e != api.OK || !slices.Equal(l, []api.Window{want}) {
			t.Errorf("Windows: %v, %d", l, e)
		}
	}
}

// TestQueryBetween: two windows that touch are two, also with the same rights and frames one behind the other.
func TestQueryBetween(t *testing.T) {
	d := newDesk(t, ordinary).spaces(1)
	d.ok(d.Map(1, 0x1000, api.Small, 2, r))
	d.ok(d.Share(1, 0x3000, 1, 0x1000, 0x2000, r))
	for va := uint32(0x1000); va < 0x5000; va += 0x1000 {
		is(t, "Query", first(d.query(1, va+0xfff)), api.Window{VA: va, Size: api.Small, Rights: r, Uses: 2})
	}
	d.ok(d.Unmap(1, 0x2000, 0x2000))
	is(t, "Query", first(d.query(1, 0x1000)).Uses, 1)
	is(t, "Query", first(d.query(1, 0x4000)).Uses, 1)
}

// TestLists: Windows and Spaces rise, and are the caller's: what is written into them, spare room too, is not seen.
func TestLists(t *testing.T) {
	d := newDesk(t, ordinary).spaces(3)
	for _, va := range []uint32{0x300000, 0x5000, 0x100000, 0, 0x20000000} {
		d.ok(d.Map(2, va, api.Small, 1, rw))
	}
	d.ok(d.Map(2, 0x10000, api.Large, 1, rw))
	d.ok(d.Destroy(1))
	windows, e := d.m.Windows(2)
	is(t, "Windows", e, api.OK)
	rise := func(a, b api.Window) int { return int(int64(a.VA) - int64(b.VA)) }
	if len(windows) != 6 || !slices.IsSortedFunc(windows, rise) {
		t.Errorf("Windows: %v", windows)
	}
	spaces := d.m.Spaces()
	if !slices.Equal(spaces, []int{2, 3}) {
		t.Errorf("Spaces: %v", spaces)
	}
	for i := range windows[:cap(windows)] {
		windows[:cap(windows)][i] = api.Window{VA: 0x7000, Size: 4, Uses: 99}
	}
	for i := range spaces[:cap(spaces)] {
		spaces[:cap(spaces)][i] = 1
	}
	d.behind("writing into lists")
	d.ok(d.Unmap(2, 0x5000, 0x1000))
	l, _ := d.m.Windows(3)
	is(t, "Windows", len(l), 0)
}

// TestUser: F16.10: each kind and size, in each place of a word, in windows of each of the rights; what no machine does.
func TestUser(t *testing.T) {
	d := newDesk(t, ordinary).spaces(1)
	for i, rights := range []api.Rights{none, r, rw, rx, rwx} {
		d.ok(d.Map(1, uint32(i)*0x1000, api.Small, 1, rw))
		d.ok(d.Switch(1))
		d.User(api.Store, uint32(i)*0x1000+8, 4, 0x8899aabb)
		d.ok(d.Protect(1, uint32(i)*0x1000, 0x1000, rights))
	}
	for page := range uint32(6) {
		for _, kind := range []int{api.Fetch, api.Load, api.Store} {
			for _, bytes := range []int{1, 2, 4} {
				for off := range uint32(8) {
					a := d.User(kind, page*0x1000+4+off, bytes, 0x11223344+off)
					if off%uint32(bytes) != 0 {
						is(t, "not aligned", a, api.Answer{Fault: api.Fault{Kind: api.FAlign}})
					}
				}
			}
		}
	}
	is(t, "a byte", d.User(api.Store, 0x2009, 1, 0xffffff77), api.Answer{})
	is(t, "its half", d.User(api.Load, 0x2008, 2, 0).Value>>8, 0x77)
	for _, kind := range []int{-1 << 63, -1, 0, 4, 1<<63 - 1} {
		is(t, "kind", d.User(kind, 0x2000, 4, 1), api.Answer{})
		_, e := d.m.User(kind, 0x2000, 4, 1)
		is(t, "kind", e, api.ErrArg)
	}
	for _, bytes := range []int{-1 << 63, -4, 0, 3, 5, 8, 1<<63 - 1} {
		_, e := d.m.User(api.Load, 0x2000, bytes, 1)
		is(t, "bytes", e, api.ErrArg)
		d.User(api.Load, 0x2000, bytes, 1)
	}
}

// TestUserFaults: the fault is told in the registers as the machine tells it; the user is no kernel.
func TestUserFaults(t *testing.T) {
	d := newDesk(t, ordinary).spaces(1)
	d.ok(d.Map(1, 0x1000, api.Small, 1, none))
	d.ok(d.Switch(1))
	d.User(api.Store, 0x1004, 4, 1)
	is(t, "DFSR", d.m.Machine().Reg(api.RegDFSR), 0x81f)
	is(t, "DFAR", d.m.Machine().Reg(api.RegDFAR), 0x1004)
	d.User(api.Fetch, 0x2004, 4, 1)
	is(t, "IFAR", d.m.Machine().Reg(api.RegIFAR), 0x2004)
	for va := uint32(0xc0000000); va < 0xc0200000; va += 0x10000 {
		for _, kind := range []int{api.Fetch, api.Load, api.Store} {
			d.quiet = kind != api.Store
			is(t, "the kernel's part", d.User(kind, va, 4, 1).Fault, api.Fault{Kind: api.FPerm, Level: 1})
		}
	}
}

// TestLooksAreNoSteps: they make no step, and take no noise.
func TestLooksAreNoSteps(t *testing.T) {
	d := newDesk(t, ordinary).spaces(2)
	d.ok(d.Map(1, 0, api.Small, 1, rw))
	d.ok(d.Switch(1))
	d.ok(d.m.Machine().Noise([]api.Noise{{Act: api.NFill}, {Act: api.NFill}}))
	d.m.Query(1, 0)
	d.m.Windows(1)
	d.m.Spaces()
	d.m.Current()
	d.m.Free()
	d.m.Machine()
	d.Switch(1)
	d.Map(1, 0, api.Small, 1, rw)
	d.Unmap(1, 0x1000, 0x1000)
	d.Destroy(3)
	is(t, "Left", d.m.Machine().Left(), 2)
	d.behind("looks")
	is(t, "steps", len(d.last), 0)
}
