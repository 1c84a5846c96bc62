package manager_test

import (
	"math/rand"
	"slices"
	"sync"
	"testing"

	"atlas/api"
	"atlas/desc"
	"atlas/manager"
)

// world: what comes at random, from few addresses, so that windows meet.
type world struct{ *rand.Rand }

func pick[T any](w world, l ...T) T { return l[w.Intn(len(l))] }

// chance: true once in n.
func (w world) chance(n int) bool { return w.Intn(n) == 0 }

// va: mostly in the user's part.
func (w world) va(n int) uint32 {
	end := uint32(1 << (32 - n))
	meg := pick(w, uint32(0), 0, 1, 1, 2, 3, 16, 17, 31, end>>20-1, end>>20-1)
	if w.chance(40) {
		meg = pick(w, end>>20, 0xc00, 0xc01, 4095)
	}
	return meg<<20 + pick(w, uint32(0), 1, 2, 3, 15, 16, 17, 32, 40, 254, 255)<<12
}

func (w world) rights() api.Rights {
	if w.chance(30) {
		return pick(w, wrongRights...)
	}
	return pick(w, none, r, rw, rw, rw, rx, rwx)
}

// id: mostly of a live space, often of the current one.
func (w world) id(d *desk) int {
	if w.chance(30) {
		return pick(w, -1, 0, 1, 2, 3, 256)
	}
	return pick(w, append(d.m.Spaces(), d.m.Current())...)
}

// stretch: from a window of a space to another one, mostly to itself; sometimes not quite.
func (w world) stretch(d *desk, id int) (uint32, uint64) {
	l, _ := d.m.Windows(id)
	if len(l) == 0 {
		return w.va(d.x.c.N), 4096
	}
	i := w.Intn(len(l))
	j := i
	for j+1 < len(l) && uint64(l[j].VA)+desc.Bytes(l[j].Size) == uint64(l[j+1].VA) && w.chance(2) {
		j++
	}
	if w.chance(12) {
		j = min(len(l)-1, j+1)
	}
	lo, hi := uint64(l[i].VA), uint64(l[j].VA)+desc.Bytes(l[j].Size)
	if w.chance(12) {
		hi += pick(w, uint64(4096), 1, 0x10000, 1<<63)
	}
	if w.chance(12) && hi-lo > 4096 {
		lo += 4096
	}
	return uint32(lo), hi - lo
}

// noise: of all sorts.
func (w world) noise(n int) api.Noise {
	return api.Noise{
		Act: pick(w, api.NNone, api.NEvict, api.NFill, api.NFill, api.NFill), Which: pick(w, api.TlbI, api.TlbD, api.TlbMain),
		Slot: w.Intn(4), VA: w.va(n) + w.Uint32()%4096, Fetch: w.chance(2), Pick: w.Intn(4), MainFirst: w.chance(2),
	}
}

func (w world) noises(d *desk, count int) {
	var l []api.Noise
	for range count {
		one := w.noise(d.x.c.N)
		if all, _ := d.m.Windows(d.m.Current()); len(all) > 0 && w.chance(2) {
			one.VA = pick(w, all...).VA
		}
		l = append(l, one)
	}
	d.m.Machine().Noise(l)
}

// edit: some call that is no access; its answer.
func (w world) edit(d *desk) api.Errno {
	id, n := w.id(d), d.x.c.N
	va, length := w.stretch(d, id)
	switch w.Intn(20) {
	case 0:
		_, e := d.Create()
		return e
	case 1:
		if w.chance(3) {
			return d.Destroy(id)
		}
		return d.Switch(0)
	case 2, 3, 4:
		return d.Switch(id)
	case 5, 6, 7, 8, 9:
		size := pick(w, 1, 1, 1, 1, 1, 2, 2, 3, 4)
		at := w.va(n)
		if !w.chance(20) {
			at -= at % uint32(desc.Bytes(size))
		}
		return d.Map(id, at, size, pick(w, 1, 1, 1, 1, 2, 3, 16, 60), w.rights())
	case 10, 11, 12:
		return d.Unmap(id, va, length)
	case 13, 14, 15:
		return d.Protect(id, va, length, w.rights())
	}
	to, at := w.id(d), w.va(n)
	if !w.chance(20) {
		at -= (at - va) % 0x1000000 // most that is aligned at the source is so there
		at += pick(w, uint32(0), 0, 0x10000, 0x100000, 0x1000)
	}
	return d.Share(to, at, id, va, length, w.rights())
}

// access: mostly near a window of some space, the current one or another.
func (w world) access(d *desk) api.Answer {
	bytes := pick(w, 1, 2, 4, 4, 4)
	va := w.va(d.x.c.N) + w.Uint32()%4096
	if l, _ := d.m.Windows(w.id(d)); len(l) > 0 && !w.chance(4) {
		one := pick(w, l...)
		va = one.VA + pick(w, 0, w.Uint32()%uint32(desc.Bytes(one.Size)), uint32(desc.Bytes(one.Size))-1, 0xffffffff, uint32(desc.Bytes(one.Size)))
	}
	if !w.chance(10) {
		va -= va % uint32(bytes)
	}
	return d.User(pick(w, api.Load, api.Load, api.Store, api.Store, api.Fetch), va, bytes, w.Uint32())
}

func (w world) config(seed int) api.Config {
	return api.Config{
		Frames: pick(w, 256, 256, 512, 1024), I: pick(w, 1, 2, 4), D: pick(w, 1, 2, 4), Main: pick(w, 1, 2, 4, 16),
		Asids: pick(w, 1, 2, 3, 255), N: 1 + seed%7,
	}
}

// TestAny: P1601 to P1606: any calls, with any noise, against the model; behind Destroy of all, all frames are free.
func TestAny(t *testing.T) {
	for seed := range 14 {
		w := world{rand.New(rand.NewSource(int64(seed)))}
		d := newDesk(t, w.config(seed))
		d.spaces(1)
		for i := range 500 {
			if w.chance(2) {
				w.noises(d, w.Intn(40))
			}
			d.quiet = i%16 != 0
			w.edit(d)
			for range w.Intn(6) {
				w.access(d)
				d.quiet = true
			}
		}
		for _, id := range d.m.Spaces() {
			d.ok(d.Destroy(id))
		}
		is(t, "Free", d.m.Free(), d.x.c.Frames-8)
	}
}

// TestAnyGreat: likewise, where windows of the size Super fit in.
func TestAnyGreat(t *testing.T) {
	for seed := range 3 {
		w := world{rand.New(rand.NewSource(100 + int64(seed)))}
		c := great
		c.N = pick(w, 1, 2, 3)
		d := newDesk(t, c)
		d.spaces(2)
		d.quiet = true
		for range 150 {
			w.noises(d, w.Intn(40))
			w.edit(d)
			for range w.Intn(6) {
				w.access(d)
			}
		}
		d.sameMemory("any")
		d.sameWindows("any")
		is(t, "Free", d.m.Free(), d.x.free())
	}
}

// TestUnseen: P1607 and P5: unlike TLBs, unlike noise, and the same calls: the same answers and the same memory.
func TestUnseen(t *testing.T) {
	for seed := range 6 {
		run := func(i, data, all int, noisy bool) ([]any, []byte) {
			w, outer := world{rand.New(rand.NewSource(200 + int64(seed)))}, world{rand.New(rand.NewSource(300 + int64(seed)))}
			d := newDesk(t, api.Config{Frames: 512, I: i, D: data, Main: all, Asids: 3, N: 1 + seed})
			d.quiet = true
			d.spaces(1)
			var told []any
			for range 200 {
				if noisy {
					outer.noises(d, outer.Intn(30))
				}
				told = append(told, w.edit(d))
				for range w.Intn(5) {
					told = append(told, w.access(d))
				}
				told = append(told, d.m.Free(), d.m.Current(), len(d.m.Spaces()))
				for _, id := range d.m.Spaces() {
					l, e := d.m.Windows(id)
					told = append(told, len(l), e)
				}
			}
			d.sameMemory("unseen")
			return told, d.x.memory
		}
		a, before := run(1, 1, 1, false)
		b, after := run(4, 3, 64, true)
		if !slices.Equal(a, b) || !slices.Equal(before, after) {
			t.Errorf("seed %d: the answers part", seed)
		}
	}
}

// TestApart: P1608 and P4: what users of each space store, all over the addresses, changes no byte but those of their own windows with the right to write.
func TestApart(t *testing.T) {
	d := newDesk(t, least).spaces(2)
	d.ok(d.Map(1, 0x1000, api.Small, 2, rw))
	d.ok(d.Map(1, 0x10000, api.Large, 1, r))
	d.ok(d.Map(2, 0x1000, api.Small, 1, r))
	d.ok(d.Map(2, 0x2000, api.Small, 1, none))
	d.ok(d.Map(2, 0x20000, api.Large, 1, rwx))
	d.ok(d.Share(2, 0x5000, 1, 0x2000, 0x1000, rw))
	for _, id := range []int{1, 2, 0, 2, 1} {
		d.ok(d.Switch(id))
		for _, va := range []uint32{0, 0x1000, 0x1ffc, 0x2000, 0x2ffc, 0x3000, 0x5000, 0x5ffc, 0x10000, 0x1fffc, 0x20000, 0x2fffc, 0x30000, 0x100000, 0x3ffffffc, 0x40000000, 0xc0000000, 0xc0003000, 0xc0008000, 0xc0009000, 0xc00ffffc, 0xc0100000} {
			d.User(api.Store, va, 4, 0x1000*uint32(id)+va)
			d.User(api.Load, va, 4, 0)
			d.User(api.Fetch, va, 4, 0)
		}
	}
}

// TestRefusedLeavesNothing: P1602 and P6: of two managers with the same calls one has many more that are refused, the exhausted ones too: all later answers are the same.
func TestRefusedLeavesNothing(t *testing.T) {
	run := func(refused bool) []any {
		d := newDesk(t, least).spaces(2)
		var told []any
		for i := range uint32(20) {
			if refused {
				for range 3 {
					is(t, "Create", second(d.Create()), api.ErrNoAsid)
					is(t, "Map", d.Map(1, 0x200000, api.Small, 256, rw), api.ErrFrames)
					is(t, "Map", d.Map(2, 0x200000, api.Large, 16, rw), api.ErrFrames)
					is(t, "Map", d.Map(1, 0x100000, api.Section, 1, rw), api.ErrFrames)
					is(t, "Unmap", d.Unmap(1, 0x200000, 0x1000), api.ErrUnmapped)
					is(t, "Share", d.Share(2, 0x1000, 1, 0x200000, 0x1000, r), api.ErrUnmapped)
				}
			}
			told = append(told, d.Map(1, i*0x1000, api.Small, 1, rw), d.Map(2, 0x300000+i*0x10000, api.Large, 1, rw))
			told = append(told, d.Share(2, i*0x1000, 1, i*0x1000, 0x1000, rw), d.m.Free())
			told = append(told, d.Switch(1), d.User(api.Store, i*0x1000, 4, i), d.Switch(2), d.User(api.Load, i*0x1000, 4, 0))
			if i%3 == 0 {
				told = append(told, d.Unmap(1, i*0x1000, 0x1000))
			}
		}
		return told
	}
	if a, b := run(false), run(true); !slices.Equal(a, b) {
		t.Errorf("%v\n%v", a, b)
	}
}

func second[T any](_ T, e api.Errno) api.Errno { return e }

// TestTogether: one mutex guards a manager: many at once leave it as one after the other would.
func TestTogether(t *testing.T) {
	m, _ := manager.Boot(api.Config{Frames: 512, I: 2, D: 2, Main: 2, Asids: 8, N: 2})
	var all sync.WaitGroup
	for i := range 8 {
		all.Go(func() {
			for range 6 {
				id, e := m.Create()
				if e != api.OK {
					t.Errorf("Create: %d", e)
					return
				}
				m.Map(id, uint32(i)<<20, api.Small, 3, rw)
				m.Switch(id)
				m.User(api.Store, uint32(i)<<20, 4, 7)
				m.Share(id, uint32(i)<<20+0x10000, id, uint32(i)<<20, 0x3000, r)
				m.Protect(id, uint32(i)<<20, 0x1000, r)
				if l, e := m.Windows(id); e != api.OK || len(l) != 6 {
					t.Errorf("Windows: %v, %d", l, e)
				}
				if w, e := m.Query(id, uint32(i)<<20); e != api.OK || w.Rights != r || w.Uses != 2 {
					t.Errorf("Query: %v, %d", w, e)
				}
				m.Unmap(id, uint32(i)<<20, 0x3000)
				m.Spaces()
				m.Current()
				m.Free()
				if e := m.Destroy(id); e != api.OK {
					t.Errorf("Destroy: %d", e)
				}
			}
		})
	}
	all.Wait()
	if len(m.Spaces()) != 0 || m.Free() != 504 || m.Current() != 0 || len(m.Machine().Dirty()) != 0 {
		t.Errorf("left: %v, %d, %d", m.Spaces(), m.Free(), m.Current())
	}
}
