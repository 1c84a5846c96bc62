package machine_test

import (
	"bytes"
	"math"
	"testing"

	"atlas/api"
)

// marked: a machine and its model, in which each frame begins, and ends, with its number and one.
func marked(t *testing.T, frames int) *both {
	t.Helper()
	b := newBoth(t, api.Config{Frames: frames, I: 1, D: 1, Main: 1})
	for i := range frames {
		b.poke(uint64(i*4096), uint32(i+1))
		b.poke(uint64(i*4096+4092), uint32(i+1)<<16)
	}
	return b
}

// is: the call's answer, and that the memory is the model's; with an error nothing has changed.
func (b *both) is(what any, got, want api.Errno, before []byte) {
	b.t.Helper()
	if got != want {
		b.t.Errorf("%v: %v, not %v", what, got, want)
	}
	b.sameBytes(what)
	events := b.sameEvents(what)
	if (len(events) == 1) != (want == api.OK) {
		b.t.Errorf("%v: %+v", what, events)
	}
	if want != api.OK && !bytes.Equal(all(b.t, b.m), before) {
		b.t.Errorf("%v: a byte has changed", what)
	}
}

// TestPoke: P1303.
func TestPoke(t *testing.T) {
	b := marked(t, 256)
	b.sameEvents("marked")
	for _, c := range []struct {
		pa   uint64
		want api.Errno
	}{
		{0, api.OK}, {4, api.OK}, {0xffffc, api.OK}, {0xff000, api.OK},
		{1, api.ErrAlign}, {2, api.ErrAlign}, {3, api.ErrAlign}, {0xffffe, api.ErrAlign}, {0x100001, api.ErrAlign}, {math.MaxUint64, api.ErrAlign},
		{0x100000, api.ErrBus}, {0x100004, api.ErrBus}, {1 << 32, api.ErrBus}, {1<<32 + 4, api.ErrBus}, {math.MaxUint64 - 3, api.ErrBus},
	} {
		before := all(t, b.m)
		b.is(c, b.poke(c.pa, 0xa1b2c3d4), c.want, before)
	}
	for _, v := range []uint32{0, 1, math.MaxUint32, 0x80000000} {
		before := all(t, b.m)
		b.is(v, b.poke(0x2000, v), api.OK, before)
		if got, _ := b.m.Word(0x2000); got != v {
			t.Errorf("%#x, not %#x", got, v)
		}
	}
}

// TestPokeIsPhysical: the context, and rights, say nothing to it.
func TestPokeIsPhysical(t *testing.T) {
	m := on(t, small, 0, nil)
	must(t, m.Poke(0x5000, 7), m.Fill(6, bytes.Repeat([]byte{9}, 4096)), m.Copy(6, 7, 1), m.Wipe(6, 1))
	for pa, want := range map[uint64]uint32{0x5000: 7, 0x6000: 0, 0x7ffc: 0x09090909} {
		if v, e := m.Word(pa); v != want || e != api.OK {
			t.Errorf("%#x: %#x %v", pa, v, e)
		}
	}
}

// counts: with the frame at which they begin, such as no memory of 256 frames has, or has.
var counts = []struct {
	frame, count int
	want         api.Errno
}{
	{0, 1, api.OK}, {255, 1, api.OK}, {254, 2, api.OK}, {3, 5, api.OK}, {0, 256, api.OK}, {0, 255, api.OK}, {1, 255, api.OK},
	{256, 1, api.ErrBus}, {255, 2, api.ErrBus}, {0, 257, api.ErrBus}, {1, 256, api.ErrBus}, {257, 1, api.ErrBus}, {-1, 1, api.ErrBus}, {-1, 2, api.ErrBus}, {-1, 256, api.ErrBus}, {-255, 256, api.ErrBus},
	{1, math.MaxInt, api.ErrBus}, {0, math.MaxInt, api.ErrBus}, {255, math.MaxInt, api.ErrBus}, {math.MaxInt, 1, api.ErrBus}, {math.MaxInt, math.MaxInt, api.ErrBus}, {math.MinInt, 1, api.ErrBus}, {math.MinInt, math.MaxInt, api.ErrBus}, {math.MaxInt, 2, api.ErrBus}, {-1, math.MaxInt, api.ErrBus},
	{1 << 52, 1, api.ErrBus}, {1<<52 + 3, 1, api.ErrBus}, {3, 1 << 52, api.ErrBus},
	{0, 0, api.ErrArg}, {255, 0, api.ErrArg}, {256, 0, api.ErrArg}, {0, -1, api.ErrArg}, {5, -1, api.ErrArg}, {-1, 0, api.ErrArg}, {0, math.MinInt, api.ErrArg}, {math.MinInt, math.MinInt, api.ErrArg}, {math.MaxInt, 0, api.ErrArg}, {3, -256, api.ErrArg},
}

// TestWipe: P1303.
func TestWipe(t *testing.T) {
	for _, c := range counts {
		b := marked(t, 256)
		b.sameEvents("marked")
		before := all(t, b.m)
		b.is(c, b.wipe(c.frame, c.count), c.want, before)
	}
}

// TestCopy: P1303; frames that overlap, both ways, too.
func TestCopy(t *testing.T) {
	for _, c := range counts {
		for _, other := range []int{0, 1, c.frame} {
			want := c.want
			if want == api.OK && other+c.count > 256 {
				want = api.ErrBus
			}
			for _, turned := range []bool{false, true} {
				b := marked(t, 256)
				b.sameEvents("marked")
				before := all(t, b.m)
				from, to := c.frame, other
				if turned {
					from, to = other, c.frame
				}
				b.is([]int{from, to, c.count}, b.copy(from, to, c.count), want, before)
			}
		}
	}
	for from := range 6 {
		for to := range 6 {
			for count := 1; count <= 5; count++ {
				b := marked(t, 256)
				b.sameEvents("marked")
				b.is([]int{from, to, count}, b.copy(250-from, 250-to, count), api.OK, nil)
			}
		}
	}
}

// TestCopyOfZeros: a frame without a byte is copied too, over one that has some.
func TestCopyOfZeros(t *testing.T) {
	b := newBoth(t, small)
	b.poke(0x5008, 7)
	b.poke(0x3008, 8)
	b.copy(2, 4, 2)
	b.sameBytes("zeros")
	if v, _ := b.m.Word(0x5008); v != 8 {
		t.Errorf("%#x", v)
	}
	b.copy(2, 5, 1)
	b.sameBytes("zeros")
	if v, _ := b.m.Word(0x5008); v != 0 {
		t.Errorf("%#x", v)
	}
}

// TestFillOfAFrame: P1303.
func TestFillOfAFrame(t *testing.T) {
	for _, c := range []struct {
		frame, length int
		want          api.Errno
	}{
		{0, 4096, api.OK}, {255, 4096, api.OK}, {7, 4096, api.OK},
		{256, 4096, api.ErrBus}, {-1, 4096, api.ErrBus}, {257, 4096, api.ErrBus}, {math.MinInt, 4096, api.ErrBus}, {math.MaxInt, 4096, api.ErrBus}, {1 << 52, 4096, api.ErrBus}, {1<<52 + 1, 4096, api.ErrBus},
		{0, 4095, api.ErrArg}, {0, 4097, api.ErrArg}, {0, 0, api.ErrArg}, {0, 8192, api.ErrArg}, {255, 4097, api.ErrArg}, {256, 4095, api.ErrArg}, {-1, 0, api.ErrArg},
	} {
		b := marked(t, 256)
		b.sameEvents("marked")
		before := all(t, b.m)
		l := make([]byte, c.length)
		for i := range l {
			l[i] = byte(i*13 + 5)
		}
		b.is(c, b.fill(c.frame, l), c.want, before)
		if got, e := b.m.Frame(c.frame); c.want == api.OK && (!bytes.Equal(got, l) || e != api.OK) {
			t.Errorf("%v: the frame is not what was handed in", c)
		}
	}
	m := made(t, small)
	if e := m.Fill(0, nil); e != api.ErrArg {
		t.Error(e)
	}
}

// TestTheGreatestMemory: at the ends of 65536 frames.
func TestTheGreatestMemory(t *testing.T) {
	t.Parallel()
	m := made(t, api.Config{Frames: 65536, I: 1, D: 1, Main: 1})
	must(t, m.Poke(0xffffffc, 7), m.Copy(65535, 0, 1), m.Fill(65535, bytes.Repeat([]byte{5}, 4096)), m.Copy(0, 1, 65535))
	for pa, want := range map[uint64]uint32{0xffc: 7, 0x1ffc: 7, 0xffffffc: 0} {
		if v, e := m.Word(pa); v != want || e != api.OK {
			t.Errorf("%#x: %#x %v", pa, v, e)
		}
	}
	must(t, m.Wipe(0, 65536))
	if v, _ := m.Word(0xffc); v != 0 {
		t.Errorf("%#x", v)
	}
	for _, e := range []api.Errno{m.Poke(0x10000000, 1), m.Wipe(0, 65537), m.Wipe(65536, 1), m.Copy(0, 2, 65535), m.Fill(65536, make([]byte, 4096))} {
		if e != api.ErrBus {
			t.Error(e)
		}
	}
	answers(t, m, store(0xfffffff, 1, 9), value(0))
	answers(t, m, load(0xffffffc, 4), value(0x09000000))
	answers(t, m, load(0x10000000, 1), fault(api.FBus))
	want := []api.Event{
		{Kind: api.EvPoke, Addr: 0xffffffc, Value: 7}, {Kind: api.EvCopy, Addr: 0, Value: 1}, {Kind: api.EvFill, Addr: 65535, Value: 1}, {Kind: api.EvCopy, Addr: 1, Value: 65535}, {Kind: api.EvWipe, Addr: 0, Value: 65536},
		{Kind: api.EvAccess, Addr: 0xfffffff}, {Kind: api.EvAccess, Addr: 0xffffffc}, {Kind: api.EvAccess, Addr: 0x10000000, Value: 1},
	}
	for i, e := range m.Events() {
		if e != want[i] {
			t.Errorf("the event %d: %+v", i, e)
		}
	}
}

// TestEachChangeIsSeen: each step that can change a table leaves a dirt, and is told how many there are.
func TestEachChangeIsSeen(t *testing.T) {
	for name, change := range map[string]func(b *both) api.Errno{
		"Poke":  func(b *both) api.Errno { return b.poke(0xc004, 0) },
		"Wipe":  func(b *both) api.Errno { return b.wipe(11, 2) },
		"Copy":  func(b *both) api.Errno { return b.copy(13, 12, 1) },
		"Fill":  func(b *both) api.Errno { return b.fill(12, make([]byte, 4096)) },
		"Mcr":   func(b *both) api.Errno { return b.mcr(ttbr0, rootB, false) },
		"store": func(b *both) api.Errno { b.do(store(0x10c004, 1, 0)); return api.OK },
	} {
		b := newBoth(t, small)
		b.poke(0x4000, 0xc001)
		b.poke(0x4004, 0xc02)
		b.poke(0x8004, 0xc02)
		b.poke(0xc004, 0x1083e)
		b.poke(0xc008, 0x1183e)
		b.mcr(ttbr0, rootA, false)
		b.mcr(dacr, 1, false)
		b.mcr(sctlr, 1, false)
		b.do(load(0x1000, 4))
		b.sameEvents(name)
		if e := change(b); e != api.OK {
			t.Fatal(name, e)
		}
		b.same(name)
		l := b.sameEvents(name)
		if len(l) != 1 || l[0].Dirty == 0 || l[0].Dirty != len(b.m.Dirty()) || !b.m.Stale(0, 0x1000) {
			t.Errorf("%s: %+v, %d dirts", name, l, len(b.m.Dirty()))
		}
		// A new page is known behind the step that makes it.
		b.poke(0x8000, 0xc001)
		b.poke(0xc00c, 0x1283e)
		b.same(name)
		b.knows(name)
	}
}
