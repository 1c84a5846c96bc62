package manager_test

import (
	"testing"

	"atlas/api"
	"atlas/desc"
)

// TestShare: F16.8: into another space and into the same one, of one window and of several of unlike sizes; the steps.
func TestShare(t *testing.T) {
	d := newDesk(t, api.Config{Frames: 1024, I: 2, D: 2, Main: 4, Asids: 3, N: 2}).spaces(2)
	d.ok(d.Map(1, 0xf0000, api.Large, 1, rw))    // the frames 16 to 31
	d.ok(d.Map(1, 0x100000, api.Section, 1, r))  // 256 to 511
	d.ok(d.Map(1, 0x200000, api.Small, 2, none)) // 11 and 12; the tables are in the frame 10
	free := d.m.Free()
	d.ok(d.Share(2, 0x4f0000, 1, 0xf0000, 0x112000, rx))
	want := []step{poke(0x9010, 0xa821)}
	for i := range uint64(16) {
		want = append(want, poke(0xabc0+4*i, 0x1182d))
	}
	want = append(want, poke(0x9014, 0x12182e), poke(0x9018, 0xac21), poke(0xac00, 0xb86e), poke(0xac04, 0xc86e))
	d.steps("Share", want...)
	is(t, "Free", d.m.Free(), free)
	is(t, "Query", first(d.query(2, 0x5fffff)), api.Window{VA: 0x500000, Size: api.Section, Rights: rx, Uses: 2})
	is(t, "Query", first(d.query(1, 0x1fffff)), api.Window{VA: 0x100000, Size: api.Section, Rights: r, Uses: 2})
	d.ok(d.Share(1, 0x700000, 1, 0x100000, 0x100000, rw))
	d.ok(d.Share(1, 0x202000, 1, 0x200000, 0x2000, rw)) // right behind itself
	d.ok(d.Switch(1))
	d.User(api.Store, 0x7abcdc, 4, 0xbeef)
	d.User(api.Store, 0x203ffc, 4, 0xfeed)
	is(t, "load", d.User(api.Load, 0x1abcdc, 4, 0), api.Answer{Value: 0xbeef})
	is(t, "load", d.User(api.Load, 0x201ffc, 4, 0).Fault, api.Fault{Kind: api.FPerm, Level: 2, Domain: 1})
	d.ok(d.Switch(2))
	is(t, "fetch", d.User(api.Fetch, 0x5abcdc, 4, 0), api.Answer{Value: 0xbeef})
	is(t, "load", d.User(api.Load, 0x601ffc, 4, 0), api.Answer{Value: 0xfeed})
	d.ok(d.Destroy(1))
	is(t, "load", d.User(api.Load, 0x601ffc, 4, 0), api.Answer{Value: 0xfeed})
	is(t, "Query", first(d.query(2, 0x500000)).Uses, 1)
	d.ok(d.Unmap(2, 0x4f0000, 0x112000))
	d.ok(d.Destroy(2))
	is(t, "Free", d.m.Free(), 1016)
}

// TestShareRefuses: no spaces, wrong rights, a twin that is no multiple of its bytes, one that overlaps.
func TestShareRefuses(t *testing.T) {
	d := newDesk(t, api.Config{Frames: 1024, I: 2, D: 2, Main: 4, Asids: 3, N: 2}).spaces(2)
	d.ok(d.Map(1, 0, api.Small, 16, rw))
	d.ok(d.Map(1, 0x10000, api.Large, 1, rw))
	d.ok(d.Map(1, 0x100000, api.Section, 1, rw))
	d.ok(d.Map(2, 0x210000, api.Small, 1, rw))
	for _, id := range append(far, 0, 3) {
		is(t, "to", d.Share(id, 0, 1, 0, 0x1000, r), api.ErrNoSpace)
		is(t, "from", d.Share(1, 0x300000, id, 0, 0x1000, r), api.ErrNoSpace)
		is(t, "both", d.Share(id, 0x300000, id, 0, 0x1000, r), api.ErrNoSpace)
	}
	for _, w := range wrongRights {
		is(t, "rights", d.Share(2, 0, 1, 0, 0x1000, w), api.ErrRights)
	}
	for _, row := range []struct {
		to     int
		va     uint32
		source uint32
		length uint64
		want   api.Errno
	}{
		{2, 0x1000, 0x10000, 0x10000, api.ErrAlign},
		{2, 0x8000, 0x10000, 0x10000, api.ErrAlign},
		{2, 0x10000, 0x100000, 0x100000, api.ErrAlign},
		{2, 0x1000, 0, 0x20000, api.ErrAlign},   // the second size of the range
		{2, 0x200000, 0x10000, 0x10000, api.OK}, // ends right ahead of a window
		{2, 0x210000, 0x10000, 0x10000, api.ErrOverlap},
		{2, 0x200000, 0, 0x1000, api.ErrOverlap}, // in the one that was just shared
		{2, 0x211000, 0, 0x1000, api.OK},         // right behind a window
		{2, 0x207000, 0, 0xb000, api.ErrOverlap}, // its last page
		{2, 0x20f000, 0, 0x1000, api.ErrOverlap},
		{2, 0x200000, 0x100000, 0x100000, api.ErrOverlap},
		{1, 0, 0, 0x1000, api.ErrOverlap},       // the source itself
		{1, 0x1000, 0, 0x10000, api.ErrOverlap}, // the source's own pages
		{1, 0xf000, 0, 0x1000, api.ErrOverlap},
		{1, 0x20000, 0x10000, 0x10000, api.OK},
		{1, 0x200000, 0x100000, 0x100000, api.OK},
		{1, 0x200000, 0x100000, 0x100000, api.ErrOverlap},
		{2, 0x3ff00000, 0x100000, 0x100000, api.OK}, // up to the part's end
		{2, 0x3ff00000, 0x100000, 0x101000, api.ErrKernel},
		{2, 0x40000000, 0x100000, 0x100000, api.ErrKernel},
		{2, 0, 0x3ffff000, 0x2000, api.ErrKernel},
	} {
		is(t, "Share", d.Share(row.to, row.va, 1, row.source, row.length, r), row.want)
	}
}

// TestShareUses: the limit of uses: at it, right beyond it, and with a frame that stands twice in the range.
func TestShareUses(t *testing.T) {
	for _, size := range []int{api.Small, api.Large} {
		d := newDesk(t, api.Config{Frames: 512, I: 1, D: 1, Main: 1, Asids: 2, N: 2}).spaces(2)
		d.quiet = true
		bytes := uint32(desc.Bytes(size))
		share := func(to int, at, from, count uint32) api.Errno {
			t.Helper()
			return d.Share(to, at*bytes, 1, from*bytes, uint64(count*bytes), r)
		}
		d.ok(d.Map(1, 0, size, 1, rw))
		for have := uint32(1); have < 128; have *= 2 {
			d.ok(share(1, have, 0, have))
		}
		d.ok(d.Map(1, 200*bytes, size, 1, rw)) // other frames, whose uses are few
		d.ok(share(1, 201, 0, 1))
		d.ok(share(1, 202, 200, 1))
		d.ok(share(2, 0, 0, 124)) // 253
		is(t, "Query", first(d.query(1, 0)).Uses, 253)
		is(t, "three more", share(2, 300, 0, 3), api.ErrShared)
		is(t, "three more", share(1, 300, 126, 2), api.OK) // 255
		is(t, "one more", share(2, 400, 0, 1), api.ErrShared)
		is(t, "one more", share(1, 400, 0, 1), api.ErrShared)
		is(t, "in a middle", share(2, 400, 200, 3), api.ErrShared)
		is(t, "the others", share(2, 400, 200, 1), api.OK)
		d.ok(d.Unmap(2, 0, uint64(bytes))) // 254
		is(t, "two more", share(2, 500, 0, 2), api.ErrShared)
		is(t, "one more", share(2, 500, 0, 1), api.OK)
		is(t, "one more", share(2, 501, 0, 1), api.ErrShared)
		d.sameWindows("Share")
		d.ok(d.Destroy(2))
		is(t, "Query", first(d.query(1, 0)).Uses, 131)
		d.ok(d.Destroy(1))
		is(t, "Free", d.m.Free(), 504)
	}
}

// TestShareFrames: no frame for a twin's table.
func TestShareFrames(t *testing.T) {
	d := newDesk(t, least).spaces(2)
	d.ok(d.Map(1, 0x0ff000, api.Small, 2, rw)) // two tables of four
	d.ok(d.Map(1, 0x200000, api.Small, 243, rw))
	is(t, "Free", d.m.Free(), 0)
	d.ok(d.Share(2, 0x0ff000, 1, 0x200000, 0x1000, r))
	is(t, "Share", d.Share(2, 0x100000, 1, 0x200000, 0x1000, r), api.ErrFrames)
	is(t, "Share", d.Share(2, 0x0fe000, 1, 0x200000, 0x1000, r), api.OK)
	is(t, "Share", d.Share(1, 0x300000, 1, 0x0ff000, 0x2000, r), api.ErrFrames)
	is(t, "Share", d.Share(1, 0x101000, 1, 0x0ff000, 0x2000, r), api.OK)
	d.ok(d.Unmap(2, 0x0fe000, 0x2000))
	is(t, "two tables, one is left", d.Share(2, 0x0ff000, 1, 0x0ff000, 0x2000, r), api.ErrFrames)
	is(t, "one table", d.Share(2, 0x0fe000, 1, 0x0ff000, 0x2000, r), api.OK)
}

// TestShareZero: P4: what is shared is not wiped, and what both have goes only with the last one.
func TestShareZero(t *testing.T) {
	d := newDesk(t, ordinary).spaces(3)
	d.ok(d.Map(1, 0, api.Large, 1, rw))
	d.ok(d.Switch(1))
	d.User(api.Store, 0x40, 4, 5)
	d.ok(d.Share(2, 0x10000, 1, 0, 0x10000, none))
	d.ok(d.Share(3, 0x20000, 2, 0x10000, 0x10000, rw)) // who has no right may hand on more: the chapter asks for none
	d.ok(d.Destroy(1))
	d.ok(d.Switch(2))
	is(t, "load", d.User(api.Load, 0x10040, 4, 0).Fault, api.Fault{Kind: api.FPerm, Level: 2, Domain: 1})
	d.ok(d.Switch(3))
	is(t, "load", d.User(api.Load, 0x20040, 4, 0), api.Answer{Value: 5})
	d.ok(d.Destroy(2))
	d.ok(d.Map(3, 0, api.Large, 1, rw))
	is(t, "load", d.User(api.Load, 0x40, 4, 0), api.Answer{})
	is(t, "load", d.User(api.Load, 0x20040, 4, 0), api.Answer{Value: 5})
	d.ok(d.Unmap(3, 0x20000, 0x10000))
	d.ok(d.Map(3, 0x20000, api.Large, 1, rw))
	is(t, "load", d.User(api.Load, 0x20040, 4, 0), api.Answer{})
}
