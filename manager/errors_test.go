package manager_test

import (
	"testing"

	"atlas/api"
)

// mistake: what is wrong with a call, as it changes one of its arguments.
type mistake[C any] struct {
	e     api.Errno
	apply func(c *C)
}

// subsets: all sets of mistakes, each applied to the right call; the first one of the set, in the chapter's order, is the answer.
func subsets[C any](t *testing.T, what string, right C, l []mistake[C], call func(c C) api.Errno) {
	t.Helper()
	for set := 1; set < 1<<len(l); set++ {
		c, want := right, api.OK
		for i := len(l) - 1; i >= 0; i-- {
			if set>>i&1 == 1 {
				l[i].apply(&c)
				want = l[i].e
			}
		}
		if got := call(c); got != want {
			t.Fatalf("%s(%+v): %d, not %d", what, c, got, want)
		}
	}
	if got := call(right); got != api.OK {
		t.Fatalf("%s(%+v): %d", what, right, got)
	}
}

type mapCall struct {
	id, size, count int
	va              uint32
	r               api.Rights
}

// TestOrderOfMap: any mistakes at once: the first in the order is told.
func TestOrderOfMap(t *testing.T) {
	d := newDesk(t, least).spaces(2)
	d.quiet = true
	d.ok(d.Map(1, 0x3fff0000, api.Large, 1, rw))
	d.ok(d.Map(2, 0, api.Small, 225, rw))
	is(t, "Free", d.m.Free(), 4)
	l := []mistake[mapCall]{
		{api.ErrArg, func(c *mapCall) { c.size = 5 }},
		{api.ErrArg, func(c *mapCall) { c.count = 257 }},
		{api.ErrAlign, func(c *mapCall) { c.va++ }},
		{api.ErrKernel, func(c *mapCall) { c.count = 2 }},
		{api.ErrRights, func(c *mapCall) { c.r = api.Rights{Exec: true} }},
		{api.ErrNoSpace, func(c *mapCall) { c.id = 3 }},
		{api.ErrOverlap, func(c *mapCall) { c.id = 1 }},
		{api.ErrFrames, func(c *mapCall) { c.size, c.va = api.Large, 0x3fff0000 }},
	}
	subsets(t, "Map", mapCall{2, api.Small, 1, 0x3ffff000, rw}, l, func(c mapCall) api.Errno {
		return d.Map(c.id, c.va, c.size, c.count, c.r)
	})
	d.sameWindows("Map")
}

type rangeCall struct {
	id     int
	va     uint32
	length uint64
	r      api.Rights
}

// TestOrderOfRanges: of Unmap and Protect.
func TestOrderOfRanges(t *testing.T) {
	d := newDesk(t, ordinary).spaces(2)
	d.quiet = true
	d.ok(d.Map(1, 0x3ff00000, api.Large, 16, rw)) // ErrSplit, ErrUnmapped
	d.ok(d.Unmap(1, 0x3ff10000, 0x10000))
	d.ok(d.Unmap(1, 0x3fff0000, 0x10000))
	d.ok(d.Map(1, 0x3fff0000, api.Small, 16, rw))
	right := rangeCall{1, 0x3fff0000, 0x10000, r}
	l := []mistake[rangeCall]{
		{api.ErrArg, func(c *rangeCall) { c.length = 0 }},
		{api.ErrAlign, func(c *rangeCall) { c.va++ }},
		{api.ErrAlign, func(c *rangeCall) { c.length |= 0x800 }},
		{api.ErrKernel, func(c *rangeCall) { c.va = 0x40000000 }},
		{api.ErrKernel, func(c *rangeCall) { c.length += 0x100000 }},
		{api.ErrRights, func(c *rangeCall) { c.r = api.Rights{Write: true} }},
		{api.ErrNoSpace, func(c *rangeCall) { c.id = 3 }},
		{api.ErrUnmapped, func(c *rangeCall) { c.id = 2 }},
		{api.ErrUnmapped, func(c *rangeCall) { c.va, c.length = 0x3ff08000, 0x10000 }},
		{api.ErrSplit, func(c *rangeCall) { c.va, c.length = 0x3ffe8000, 0x18000 }},
	}
	// The last mistakes set the range itself, so that they are applied ahead of those that spoil it.
	subsets(t, "Protect", right, l, func(c rangeCall) api.Errno { return d.Protect(c.id, c.va, c.length, c.r) })
	withoutRights := append(append([]mistake[rangeCall]{}, l[:5]...), l[6:]...)
	subsets(t, "Unmap", right, withoutRights, func(c rangeCall) api.Errno { return d.Unmap(c.id, c.va, c.length) })
	d.sameWindows("Unmap")
}

type shareCall struct {
	to, from   int
	va, source uint32
	length     uint64
	r          api.Rights
}

// TestOrderOfShare: of the mistakes in its arguments; the space 1 has in its first MiB no room, and frames that are shared as often as can be; no frame is left.
func TestOrderOfShare(t *testing.T) {
	c := least
	c.Asids = 3
	d := newDesk(t, c).spaces(3)
	d.quiet = true
	d.ok(d.Map(1, 0x100000, api.Large, 1, rw))
	for have := uint32(1); have < 128; have *= 2 {
		d.ok(d.Share(1, 0x100000+0x10000*have, 1, 0x100000, uint64(0x10000*have), r))
	}
	d.ok(d.Share(2, 0x1000000, 1, 0x100000, 127*0x10000, r)) // 255
	d.ok(d.Map(1, 0, api.Large, 1, rw))                      // the giver of what can be shared
	for _, va := range []uint32{0x40000, 0x1400000, 0x1500000} {
		d.ok(d.Map(1, va, api.Small, 1, rw))
	}
	d.ok(d.Map(1, 0x1000000, api.Small, d.m.Free(), rw)) // all of twenty tables, in five frames, are in use
	is(t, "Free", d.m.Free(), 0)
	right := shareCall{1, 1, 0x20000, 0, 0x10000, r}
	l := []mistake[shareCall]{
		{api.ErrArg, func(c *shareCall) { c.length = 0 }},
		{api.ErrAlign, func(c *shareCall) { c.va |= 0x800 }},
		{api.ErrAlign, func(c *shareCall) { c.source |= 0x800 }},
		{api.ErrKernel, func(c *shareCall) { c.va |= 0x40000000 }},
		{api.ErrKernel, func(c *shareCall) { c.source |= 0x40000000 }},
		{api.ErrRights, func(c *shareCall) { c.r = api.Rights{Write: true, Exec: true} }},
		{api.ErrNoSpace, func(c *shareCall) { c.to = 9 }},
		{api.ErrNoSpace, func(c *shareCall) { c.from = 9 }},
		{api.ErrUnmapped, func(c *shareCall) { c.length += 0x8000 }},
		{api.ErrSplit, func(c *shareCall) { c.source, c.length = c.source+0x8000, c.length-0x8000 }},
		{api.ErrAlign, func(c *shareCall) { c.va += 0x1000 }},
		{api.ErrOverlap, func(c *shareCall) { c.to, c.va = 1, 0x40000 }},
		{api.ErrShared, func(c *shareCall) { c.source = 0x8f0000 }}, // the last one of the 128
		{api.ErrFrames, func(c *shareCall) { c.va, c.to = 0x20000, 3 }},
	}
	subsets(t, "Share", right, l, func(c shareCall) api.Errno {
		return d.Share(c.to, c.va, c.from, c.source, c.length, c.r)
	})
	d.sameWindows("Share")
}

// TestOrderOfQuery: ErrKernel, ErrNoSpace, ErrUnmapped.
func TestOrderOfQuery(t *testing.T) {
	d := newDesk(t, least).spaces(1)
	for _, id := range append(far, 0, 2) {
		_, e := d.query(id, 0x40000000)
		is(t, "Query", e, api.ErrKernel)
		_, e = d.query(id, 0)
		is(t, "Query", e, api.ErrNoSpace)
		l, e := d.m.Windows(id)
		is(t, "Windows", e, api.ErrNoSpace)
		is(t, "Windows", len(l), 0)
	}
	_, e := d.query(1, 0xffffffff)
	is(t, "Query", e, api.ErrKernel)
	_, e = d.query(1, 0x3fffffff)
	is(t, "Query", e, api.ErrUnmapped)
}
