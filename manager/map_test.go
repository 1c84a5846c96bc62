package manager_test

import (
	"slices"
	"testing"

	"atlas/api"
	"atlas/desc"
)

// one: a size, how many frames it has, and the level and the domain of its faults.
type one struct{ size, frames, level, domain int }

var sizes = []one{{api.Small, 1, 2, 1}, {api.Large, 16, 2, 1}, {api.Section, 256, 1, 1}, {api.Super, 4096, 1, 0}}

// TestMapSizes: F16.5: each size, with each of the rights: its frames, its word, its window, what a user may.
func TestMapSizes(t *testing.T) {
	for _, s := range sizes {
		for _, rights := range []api.Rights{none, r, rw, rx, rwx} {
			d := newDesk(t, great).spaces(1)
			d.quiet = true
			bytes := uint32(desc.Bytes(s.size))
			d.ok(d.Map(1, bytes, s.size, 1, rights))
			d.sameWindows("Map")
			is(t, "the first step", d.last[0].Kind, api.EvWipe)
			is(t, "its frames", int(d.last[0].Value), s.frames)
			is(t, "its first frame", int(d.last[0].Addr)%s.frames, 0)
			d.ok(d.Switch(1))
			for kind, may := range map[int]bool{api.Load: rights.Read, api.Store: rights.Write, api.Fetch: rights.Exec} {
				want := api.Fault{}
				if !may {
					want = api.Fault{Kind: api.FPerm, Level: s.level, Domain: s.domain}
				}
				is(t, "first byte", d.User(kind, bytes, 1, 1).Fault, want)
				is(t, "last byte", d.User(kind, 2*bytes-1, 1, 1).Fault, want)
			}
			for _, va := range []uint32{bytes - 1, 2 * bytes} {
				if f := d.User(api.Load, va, 1, 0).Fault; f.Kind != api.FTrans1 && f != (api.Fault{Kind: api.FTrans2, Domain: 1}) {
					t.Errorf("beyond: %v", f)
				}
			}
		}
	}
}

// TestMapRefuses: ErrArg, ErrAlign, ErrKernel and ErrRights of each size.
func TestMapRefuses(t *testing.T) {
	for _, n := range []int{1, 2, 7} {
		c := least
		c.N = n
		d := newDesk(t, c).spaces(1)
		d.quiet = true
		end := uint64(1) << (32 - n)
		for _, size := range []int{-1 << 63, -1, 0, 5, 1<<63 - 1} {
			is(t, "size", d.Map(1, 0, size, 1, r), api.ErrArg)
		}
		for _, s := range sizes {
			bytes := desc.Bytes(s.size)
			for _, count := range []int{-1 << 63, -1, 0, 257, 1<<63 - 1} {
				is(t, "count", d.Map(1, 0, s.size, count, r), api.ErrArg)
			}
			for _, off := range []uint64{1, 2, bytes / 2, bytes - 1} {
				is(t, "off", d.Map(1, uint32(bytes+off), s.size, 1, r), api.ErrAlign)
			}
			for _, row := range []struct {
				va    uint64
				count int
			}{{end, 1}, {end - bytes, 2}, {end - bytes, 256}, {end - 255*bytes, 256}, {0x100000000 - bytes, 1}, {0x100000000 - bytes, 256}, {0xc0000000, 1}} {
				is(t, "beyond", d.Map(1, uint32(row.va), s.size, row.count, r), api.ErrKernel)
			}
			for _, w := range wrongRights {
				is(t, "rights", d.Map(1, 0, s.size, 1, w), api.ErrRights)
			}
			for _, id := range append(far, 0, 2) {
				is(t, "id", d.Map(id, 0, s.size, 1, r), api.ErrNoSpace)
			}
		}
		is(t, "Map", d.Map(1, uint32(end-4096), api.Small, 1, r), api.OK)
		is(t, "Map", d.Map(1, uint32(end-0x20000), api.Large, 1, r), api.OK)
		d.ok(d.Switch(1))
		d.sameWindows("at the end")
		is(t, "load", d.User(api.Load, uint32(end-4), 4, 0), api.Answer{})
		is(t, "load", d.User(api.Load, uint32(end), 4, 0).Fault, api.Fault{Kind: api.FTrans1})
	}
}

// TestMapCounts: 1 and 256 blocks, one behind the other, and their steps.
func TestMapCounts(t *testing.T) {
	d := newDesk(t, api.Config{Frames: 1024, I: 1, D: 1, Main: 1, Asids: 1, N: 1}).spaces(1)
	d.quiet = true
	d.ok(d.Map(1, 0x180000, api.Small, 256, rw))
	var want []step
	for i := range 256 {
		want = append(want, wipe(10+i, 1))
	}
	for i := range uint64(256) {
		if i == 0 {
			want = append(want, wipe(266, 1), poke(0x8004, 0x0010a021)) // the tables 1064, 1065: the frame 266
		}
		if i == 128 {
			want = append(want, poke(0x8008, 0x0010a421))
		}
		want = append(want, poke(0x10a200+4*i, uint32(10+i)<<12|0x87f))
	}
	d.steps("Map", want...)
	d.ok(d.Map(1, 0x400000, api.Large, 3, r))
	d.ok(d.Map(1, 0x500000, api.Section, 1, r))
	l, _ := d.m.Windows(1)
	is(t, "windows", len(l), 260)
	d.sameMemory("Map")
	d.sameWindows("Map")
}

// TestMapOverlaps: a page of the range is in a window: at its beginning, in its middle, at its end; what only touches is no overlap.
func TestMapOverlaps(t *testing.T) {
	d := newDesk(t, api.Config{Frames: 1024, I: 1, D: 1, Main: 1, Asids: 2, N: 2}).spaces(2)
	d.ok(d.Map(1, 0x110000, api.Large, 1, rw))
	for _, row := range []struct {
		va          uint32
		size, count int
		want        api.Errno
	}{
		{0x110000, api.Small, 1, api.ErrOverlap},
		{0x11f000, api.Small, 1, api.ErrOverlap},
		{0x118000, api.Small, 1, api.ErrOverlap},
		{0x10f000, api.Small, 2, api.ErrOverlap},
		{0x100000, api.Small, 256, api.ErrOverlap},
		{0x110000, api.Large, 1, api.ErrOverlap},
		{0x100000, api.Large, 2, api.ErrOverlap},
		{0x100000, api.Section, 1, api.ErrOverlap},
		{0x000000, api.Section, 2, api.ErrOverlap},
		{0x000000, api.Super, 1, api.ErrOverlap},
		{0x000000, api.Super, 2, api.ErrOverlap},
		{0x10f000, api.Small, 1, api.OK},
		{0x120000, api.Small, 1, api.OK},
		{0x100000, api.Small, 15, api.OK},
		{0x130000, api.Large, 2, api.OK},
		{0x200000, api.Section, 1, api.OK},
		{0x120000, api.Large, 1, api.ErrOverlap},
	} {
		is(t, "Map", d.Map(1, row.va, row.size, row.count, r), row.want)
	}
	d.ok(d.Map(2, 0x110000, api.Large, 1, rw))
	d.ok(d.Unmap(1, 0x110000, 0x10000))
	d.ok(d.Map(1, 0x110000, api.Small, 16, rw))
}

// TestMapFrames: ErrFrames: no run of frames, a run that is not aligned, no frame for a table; all is as it was.
func TestMapFrames(t *testing.T) {
	d := newDesk(t, least).spaces(1) // 247 frames are left, from 9 on
	is(t, "Section", d.Map(1, 0x100000, api.Section, 1, r), api.ErrFrames)
	is(t, "Super", d.Map(1, 0, api.Super, 1, r), api.ErrFrames)
	is(t, "Large", d.Map(1, 0, api.Large, 16, r), api.ErrFrames)
	is(t, "Small", d.Map(1, 0, api.Small, 248, r), api.ErrFrames)
	is(t, "no table", d.Map(1, 0, api.Small, 247, r), api.ErrFrames)
	is(t, "two tables", d.Map(1, 0xff000, api.Small, 246, r), api.OK) // both in one frame
	is(t, "Free", d.m.Free(), 0)
	is(t, "none", d.Map(1, 0x300000, api.Small, 1, r), api.ErrFrames)
	d.ok(d.Unmap(1, 0xff000, 0x1000))
	is(t, "none", d.Map(1, 0x300000, api.Small, 2, r), api.ErrFrames)
	d.ok(d.Map(1, 0x300000, api.Small, 1, r))
	d.ok(d.Unmap(1, 0x100000, 2*4096))
	is(t, "no run", d.Map(1, 0x400000, api.Large, 1, r), api.ErrFrames)
	d.ok(d.Map(1, 0x400000, api.Small, 1, r))
	d.ok(d.Map(1, 0x600000, api.Small, 1, r)) // the fourth table of its frame
	d.ok(d.Unmap(1, 0x102000, 2*4096))
	d.ok(d.Map(1, 0x700000, api.Small, 1, r)) // the last two frames: for the window, and for a fifth table
	is(t, "Free", d.m.Free(), 0)
	d.ok(d.Unmap(1, 0x700000, 0x1000))
	d.ok(d.Map(1, 0x105000+0xf0000, api.Small, 1, r))
	is(t, "Free", d.m.Free(), 1)
	is(t, "no fifth table", d.Map(1, 0x700000, api.Small, 1, r), api.ErrFrames)
	is(t, "Free", d.m.Free(), 1)
	d.ok(d.Destroy(1))
	is(t, "Free", d.m.Free(), 248)
}

// TestMapAligned: a run of frames begins at a multiple of its count, the least one.
func TestMapAligned(t *testing.T) {
	d := newDesk(t, great).spaces(1)
	d.quiet = true
	d.ok(d.Map(1, 0x1000000, api.Super, 2, rw))
	is(t, "frames", d.last[0].Addr, 4096)
	is(t, "frames", d.last[1].Addr, 8192)
	is(t, "no third", d.Map(1, 0, api.Super, 1, rw), api.ErrFrames)
	d.ok(d.Map(1, 0x100000, api.Section, 1, rw))
	is(t, "frames", d.last[0].Addr, 256)
	d.ok(d.Map(1, 0, api.Large, 1, rw))
	is(t, "frames", d.last[0].Addr, 16)
	d.ok(d.Map(1, 0x20000, api.Small, 1, rw))
	is(t, "frames", d.last[0].Addr, 10)
	is(t, "too many", d.Map(1, 0x4000000, api.Section, 15, rw), api.ErrFrames)
	d.ok(d.Map(1, 0x4000000, api.Section, 14, rw))
	d.sameWindows("Map")
	d.sameMemory("Map")
}

// TestMapZero: P4: what a window has just got is zero, whoever had its frames.
func TestMapZero(t *testing.T) {
	d := newDesk(t, least).spaces(2)
	d.ok(d.Map(1, 0, api.Small, 100, rw))
	d.ok(d.Switch(1))
	for i := range uint32(100) {
		d.quiet = i < 99
		d.User(api.Store, i*4096+i*4, 4, 0xffffffff)
	}
	d.ok(d.Unmap(1, 0, 100*4096))
	d.ok(d.Map(2, 0, api.Large, 6, rw))
	d.ok(d.Switch(2))
	d.quiet = true
	for va := uint32(0); va < 6*65536; va += 4096 {
		for i := range uint32(100) {
			is(t, "load", d.User(api.Load, va+i*4, 4, 0), api.Answer{})
		}
	}
}

// TestRangesRefuse: F16.6, F16.7: length 0, what is no multiple, beyond the part, no space; of Unmap, Protect and Share.
func TestRangesRefuse(t *testing.T) {
	for _, n := range []int{1, 2, 7} {
		c := least
		c.N = n
		d := newDesk(t, c).spaces(1)
		d.quiet = true
		end := uint64(1) << (32 - n)
		d.ok(d.Map(1, uint32(end-4096), api.Small, 1, rw))
		d.ok(d.Map(1, 0, api.Small, 2, rw))
		check := func(id int, va uint32, length uint64, want api.Errno) {
			t.Helper()
			is(t, "Unmap", d.Unmap(id, va, length), want)
			is(t, "Protect", d.Protect(id, va, length, r), want)
			is(t, "Share", d.Share(id, 0x10000, id, va, length, r), want)
			if want != api.ErrUnmapped {
				is(t, "Share", d.Share(id, va, id, 0, length, r), want)
			}
		}
		check(1, 0, 0, api.ErrArg)
		check(1, 1, 0, api.ErrArg)
		check(1, 0xfffff000, 0, api.ErrArg)
		for _, off := range []uint32{1, 4, 2048, 4095} {
			check(1, off, 4096, api.ErrAlign)
			check(1, 0, uint64(off), api.ErrAlign)
			check(1, 0, 4096+uint64(off), api.ErrAlign)
			check(1, 0xffffffff-off, -uint64(off), api.ErrAlign)
		}
		check(1, uint32(end-4096), 8192, api.ErrKernel)
		check(1, uint32(end), 4096, api.ErrKernel)
		check(1, uint32(end)+4096, 4096, api.ErrKernel)
		check(1, 0, end+4096, api.ErrKernel)
		check(1, 0, 1<<32, api.ErrKernel)
		check(1, 0xfffff000, 4096, api.ErrKernel)
		check(1, 4096, 1<<64-4096, api.ErrKernel) // their sum is 2^64
		check(1, 8192, 1<<64-4096, api.ErrKernel) // beyond it
		check(1, 0xfffff000, 1<<63, api.ErrKernel)
		for _, id := range append(far, 0, 2) {
			check(id, 0, 4096, api.ErrNoSpace)
		}
		is(t, "Unmap", d.Unmap(1, 0, end), api.ErrUnmapped)
		is(t, "Protect", d.Protect(1, 0, end, r), api.ErrUnmapped)
		is(t, "Share", d.Share(1, 0, 1, 0, end, r), api.ErrUnmapped)
		check(1, 0x2000, 4096, api.ErrUnmapped)
		d.ok(d.Protect(1, uint32(end-4096), 4096, r))
		d.ok(d.Unmap(1, uint32(end-4096), 4096))
		d.sameWindows("refused")
	}
}

// TestUnmap: one window, several, a hole, a part, all; and the steps.
func TestUnmap(t *testing.T) {
	d := newDesk(t, api.Config{Frames: 1024, I: 2, D: 2, Main: 4, Asids: 2, N: 2}).spaces(1)
	d.ok(d.Switch(1))
	lay := func() {
		t.Helper()
		d.ok(d.Map(1, 0xf0000, api.Large, 1, rw))    // the frames 16 to 31
		d.ok(d.Map(1, 0x100000, api.Section, 1, rw)) // 256 to 511
		d.ok(d.Map(1, 0x200000, api.Small, 2, rw))   // the tables are in the frame 9
		d.ok(d.Map(1, 0x203000, api.Small, 1, rw))
	}
	lay()
	for _, row := range []struct {
		va     uint32
		length uint64
		want   api.Errno
	}{
		{0xef000, 0x1000, api.ErrUnmapped},
		{0xef000, 0x11000, api.ErrUnmapped},
		{0xf0000, 0x113000, api.ErrUnmapped}, // the hole is at its end
		{0xf0000, 0x114000, api.ErrUnmapped}, // in its middle
		{0x202000, 0x2000, api.ErrUnmapped},  // at its beginning
		{0x204000, 0x1000, api.ErrUnmapped},
		{0xf8000, 0x8000, api.ErrSplit},
		{0xf0000, 0x8000, api.ErrSplit},
		{0xf4000, 0x4000, api.ErrSplit},
		{0xff000, 0x101000, api.ErrSplit},
		{0xf0000, 0x11000, api.ErrSplit},
		{0x1ff000, 0x3000, api.ErrSplit},
		{0xf8000, 0x10b000, api.ErrUnmapped}, // it is cut, and has a hole
		{0x1ff000, 0x4000, api.ErrUnmapped},
	} {
		is(t, "Unmap", d.Unmap(1, row.va, row.length), row.want)
		is(t, "Protect", d.Protect(1, row.va, row.length, rx), row.want)
		is(t, "Share", d.Share(1, 0x3000000, 1, row.va, row.length, rx), row.want)
	}
	d.ok(d.Unmap(1, 0x201000, 0x1000))
	d.steps("Unmap", poke(0x9404, 0), dropMva(0x201001))
	d.ok(d.Unmap(1, 0x203000, 0x1000))
	d.ok(d.Unmap(1, 0xf0000, 0x111000))
	want := []step{}
	for i := range uint64(16) {
		want = append(want, poke(0x93c0+4*i, 0))
	}
	want = append(want, dropMva(0xf0001), poke(0x8000, 0))
	want = append(want, poke(0x8004, 0), dropMva(0x100001))
	want = append(want, poke(0x9400, 0), dropMva(0x200001), poke(0x8008, 0))
	d.steps("Unmap", want...)
	is(t, "Free", d.m.Free(), 1015)
	is(t, "Unmap", d.Unmap(1, 0xf0000, 0x111000), api.ErrUnmapped)
	lay()
	d.ok(d.Map(1, 0x202000, api.Small, 1, none))
	d.ok(d.Unmap(1, 0xf0000, 0x114000))
	is(t, "Free", d.m.Free(), 1015)
	is(t, "load", d.User(api.Load, 0x100000, 4, 0).Fault, api.Fault{Kind: api.FTrans1})
}

// TestProtect: one window, several, to and fro, also to the same rights; the bytes stay; and the steps.
func TestProtect(t *testing.T) {
	d := newDesk(t, api.Config{Frames: 1024, I: 2, D: 2, Main: 4, Asids: 2, N: 2}).spaces(2)
	d.ok(d.Map(1, 0x100000, api.Section, 1, rw))
	d.ok(d.Map(1, 0x200000, api.Small, 2, rw))
	d.ok(d.Share(2, 0x200000, 1, 0x200000, 0x2000, rw))
	d.ok(d.Switch(1))
	d.User(api.Store, 0x1ffffc, 4, 77)
	d.User(api.Store, 0x200000, 4, 78)
	for _, w := range wrongRights {
		is(t, "Protect", d.Protect(1, 0x100000, 0x100000, w), api.ErrRights)
	}
	for _, rights := range []api.Rights{r, r, none, rx, rwx, rw} {
		d.ok(d.Protect(1, 0x100000, 0x101000, rights))
		for _, kind := range []int{api.Load, api.Fetch, api.Store} {
			for _, va := range []uint32{0x1ffffc, 0x200000, 0x201000} {
				d.User(kind, va, 4, 79)
			}
		}
		d.ok(d.Switch(2))
		is(t, "store", d.User(api.Store, 0x200ffc, 4, 80), api.Answer{})
		d.ok(d.Switch(1))
	}
	d.ok(d.Protect(1, 0x200000, 0x2000, r)) // the frames 10 and 11, the table is in the frame 12; AP 2, XN
	d.steps("Protect", poke(0xc000, 0), dropMva(0x200001), poke(0xc000, 0xa86f), poke(0xc004, 0), dropMva(0x201001), poke(0xc004, 0xb86f))
	d.ok(d.Switch(2))
	d.ok(d.Protect(1, 0x100000, 0x100000, none))
	is(t, "steps", len(d.last), 3)
	is(t, "Query", first(d.query(1, 0x1fffff)), api.Window{VA: 0x100000, Size: api.Section, Uses: 1})
}

func first[T any](v T, _ api.Errno) T { return v }

// TestFirstStep: P1604 and P1605: each size: it is dirty behind the first step, clean behind the last; how many drops.
func TestFirstStep(t *testing.T) {
	drops := func(d *desk) int {
		n := 0
		for _, e := range d.last {
			if e.Kind == api.EvDrop {
				n++
			}
		}
		return n
	}
	for _, s := range sizes {
		d := newDesk(t, great).spaces(2)
		d.quiet = true
		bytes := desc.Bytes(s.size)
		d.ok(d.Switch(1))
		count := min(3, 8192/s.frames)
		d.ok(d.Map(1, 0, s.size, count, rw))
		is(t, "Map drops", drops(d), 0)
		d.ok(d.Protect(1, 0, uint64(count)*bytes, r))
		is(t, "Protect drops", drops(d), count)
		if d.last[0].Dirty == 0 || d.last[len(d.last)-1].Dirty != 0 {
			t.Errorf("Protect: %v", d.last)
		}
		d.ok(d.Share(2, 0, 1, 0, bytes, r))
		is(t, "Share drops", drops(d), 0)
		d.ok(d.Unmap(1, 0, bytes))
		is(t, "Unmap drops", drops(d), 1)
		if d.last[0].Dirty == 0 {
			t.Errorf("Unmap: %v", d.last)
		}
		d.ok(d.Unmap(2, 0, bytes))
		if slices.ContainsFunc(d.last, func(e api.Event) bool { return e.Dirty != 0 }) {
			t.Errorf("Unmap of a space that nobody has walked: %v", d.last)
		}
		d.ok(d.Destroy(1))
		is(t, "Destroy drops", drops(d), 1)
		if d.last[0].Dirty == 0 {
			t.Errorf("Destroy: %v", d.last)
		}
		d.ok(d.Switch(2))
		is(t, "Switch drops", drops(d), 1)
		d.ok(d.Destroy(2))
		is(t, "Destroy drops", drops(d), 0)
	}
}
