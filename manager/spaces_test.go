package manager_test

import (
	"testing"

	"atlas/api"
)

// far: numbers that are no space's, of the whole range.
var far = []int{-1 << 63, -1, 256, 1 << 40, 1<<63 - 1}

// TestCreateNumbers: F16.2: until no number is left; the least one again behind a Destroy.
func TestCreateNumbers(t *testing.T) {
	for _, asids := range []int{1, 3, 255} {
		c := ordinary
		c.Asids = asids
		d := newDesk(t, c)
		d.quiet = asids == 255
		for want := 1; want <= asids; want++ {
			id, e := d.Create()
			is(t, "Create", e, api.OK)
			is(t, "Create", id, want)
			d.steps("Create", wipe(7+want, 1))
		}
		id, e := d.Create()
		is(t, "Create", id, 0)
		is(t, "Create", e, api.ErrNoAsid)
		d.ok(d.Destroy(asids))
		if asids > 1 {
			d.ok(d.Destroy(1 + asids/2))
			id, e = d.Create()
			is(t, "Create", e, api.OK)
			is(t, "Create", id, 1+asids/2)
		}
		id, e = d.Create()
		is(t, "Create", e, api.OK)
		is(t, "Create", id, asids)
		_, e = d.Create()
		is(t, "Create", e, api.ErrNoAsid)
	}
}

// TestCreateFrames: F16.2: until no frame, or no run of two, is left; ErrNoAsid comes ahead of that.
func TestCreateFrames(t *testing.T) {
	c := least
	c.Asids = 255
	d := newDesk(t, c).spaces(1)
	d.ok(d.Map(1, 0, api.Small, 245, rw)) // and the root, and the table: one is left
	is(t, "Free", d.m.Free(), 1)
	id, e := d.Create()
	is(t, "Create", e, api.OK)
	is(t, "Create", id, 2)
	id, e = d.Create()
	is(t, "Create", e, api.ErrFrames)
	is(t, "Create", id, 0)
	d.ok(d.Destroy(2))
	d.spaces(1)

	c.N = 1
	d = newDesk(t, c).spaces(1)
	d.steps("Create", wipe(8, 2))
	d.ok(d.Map(1, 0, api.Small, 245, rw)) // the frames 10 to 254, and 255 is the table's
	is(t, "Free", d.m.Free(), 0)
	d.ok(d.Unmap(1, 0, 0x1000))
	d.ok(d.Unmap(1, 0x2000, 0x1000))
	is(t, "Free", d.m.Free(), 2) // 10 and 12: no run
	_, e = d.Create()
	is(t, "Create", e, api.ErrFrames)
	d.ok(d.Unmap(1, 0x1000, 0x1000))
	d.spaces(1)
	d.steps("Create", wipe(10, 2))

	c = least
	c.Asids = 1
	d = newDesk(t, c).spaces(1)
	d.ok(d.Map(1, 0, api.Small, 246, rw))
	is(t, "Free", d.m.Free(), 0)
	_, e = d.Create()
	is(t, "Create", e, api.ErrNoAsid)
}

// TestSwitch: F16.4: to 0, to the current one, to one that is not live.
func TestSwitch(t *testing.T) {
	d := newDesk(t, ordinary)
	d.ok(d.Switch(0))
	d.steps("Switch(0)")
	for _, id := range append(far, 1, 2) {
		is(t, "Switch", d.Switch(id), api.ErrNoSpace)
	}
	d.spaces(2)
	d.ok(d.Map(1, 0, api.Small, 1, rw))
	d.ok(d.Map(2, 0, api.Section, 1, r))
	is(t, "Switch", d.Switch(3), api.ErrNoSpace)
	d.ok(d.Switch(2))
	d.steps("Switch(2)", setContext(0), setTtbr0(0x9000), setContext(2), dropAsid(0))
	d.ok(d.Switch(2))
	d.steps("Switch(2)")
	is(t, "Switch", d.Switch(3), api.ErrNoSpace)
	is(t, "Current", d.m.Current(), 2)
	d.ok(d.Switch(1))
	d.steps("Switch(1)", setContext(0), setTtbr0(0x8000), setContext(1), dropAsid(0))
	d.ok(d.Switch(0))
	d.steps("Switch(0)", setContext(0), setTtbr0(0x4000), setContext(0), dropAsid(0))
	d.ok(d.Switch(0))
	d.steps("Switch(0)")
	is(t, "load", d.User(api.Load, 0, 4, 0).Fault, api.Fault{Kind: api.FTrans1})
	d.ok(d.Switch(1))
	is(t, "store", d.User(api.Store, 0, 4, 9), api.Answer{})
	d.ok(d.Switch(2))
	is(t, "store", d.User(api.Store, 0, 4, 9).Fault, api.Fault{Kind: api.FPerm, Level: 1, Domain: 1})
	is(t, "load", d.User(api.Load, 0, 4, 0), api.Answer{})
}

// TestSwitchBetween: of the blocks of all spaces nothing stays for the ASID 0 behind a Switch, whatever the outer world fetched.
func TestSwitchBetween(t *testing.T) {
	for _, fetch := range []bool{false, true} {
		d := newDesk(t, ordinary).spaces(2)
		d.ok(d.Map(1, 0, api.Small, 1, rwx))
		d.ok(d.Map(2, 0, api.Large, 1, rwx))
		for _, id := range []int{1, 2, 1, 0, 2, 0, 1} {
			d.ok(d.m.Machine().Noise([]api.Noise{{Act: api.NFill, Fetch: fetch}, {Act: api.NFill, Fetch: fetch, Pick: 1}, {Act: api.NFill, Fetch: fetch, Pick: 2}, {Act: api.NFill, Fetch: fetch, Pick: 3}}))
			d.ok(d.Switch(id))
			is(t, "noise", d.m.Machine().Left(), 0)
			for _, b := range d.m.Machine().Known() {
				if b.Asid == 0 {
					t.Fatalf("%+v is known", b)
				}
			}
			d.User(api.Store, 0, 4, uint32(id))
		}
	}
}

// TestDestroy: F16.3: one that is not live; with nothing; with windows of all sizes, with shared ones; the current one and another.
func TestDestroy(t *testing.T) {
	d := newDesk(t, ordinary)
	for _, id := range append(far, 0, 1) {
		is(t, "Destroy", d.Destroy(id), api.ErrNoSpace)
	}
	d.spaces(3)
	d.ok(d.Destroy(2))
	d.steps("Destroy(2)")
	is(t, "Destroy", d.Destroy(2), api.ErrNoSpace)
	d.ok(d.Switch(3))
	d.ok(d.Destroy(3))
	d.steps("Destroy(3)", setContext(0), setTtbr0(0x4000))
	is(t, "Current", d.m.Current(), 0)
	d.ok(d.Map(1, 0x1000, api.Small, 1, rw))
	d.ok(d.Map(1, 0x300000, api.Section, 1, rw)) // the frames 256 to 511
	d.ok(d.Switch(1))
	d.ok(d.Destroy(1))
	d.steps("Destroy(1)", poke(0xa004, 0), poke(0x800c, 0), dropAsid(1), poke(0x8000, 0), setContext(0), setTtbr0(0x4000))
	is(t, "Free", d.m.Free(), 504)
	is(t, "Create", len(d.m.Spaces()), 0)
}

// TestDestroySizes: all sizes at once, of the current space and of another; what is shared lives on.
func TestDestroySizes(t *testing.T) {
	for _, current := range []bool{true, false} {
		d := newDesk(t, great).spaces(2)
		d.quiet = true
		d.ok(d.Map(1, 0x0000000, api.Small, 3, rw))
		d.ok(d.Map(1, 0x0010000, api.Large, 2, r))
		d.ok(d.Map(1, 0x0100000, api.Section, 2, rx))
		d.ok(d.Map(1, 0x1000000, api.Super, 1, rwx))
		d.ok(d.Share(2, 0x0200000, 1, 0x10000, 0x20000, rw))
		d.ok(d.Share(2, 0x2000000, 1, 0x1000000, 0x1000000, rw))
		d.ok(d.Share(1, 0x3000000, 1, 0x1000000, 0x1000000, r))
		d.ok(d.Switch(1))
		d.User(api.Store, 0x1fffffc, 4, 0x1234)
		if !current {
			d.ok(d.Switch(2))
			is(t, "load", d.User(api.Load, 0x2fffffc, 4, 0), api.Answer{Value: 0x1234})
		}
		d.sameWindows("all sizes")
		d.ok(d.Destroy(1))
		d.sameWindows("Destroy")
		d.sameMemory("Destroy")
		w, _ := d.query(2, 0x2fffffc)
		is(t, "Query", w, api.Window{VA: 0x2000000, Size: api.Super, Rights: rw, Uses: 1})
		d.ok(d.Switch(2))
		is(t, "load", d.User(api.Load, 0x2fffffc, 4, 0), api.Answer{Value: 0x1234})
		id, _ := d.Create()
		is(t, "Create", id, 1)
		d.ok(d.Destroy(1))
		d.ok(d.Destroy(2))
		is(t, "Free", d.m.Free(), 12280)
	}
}

// TestAsidAgain: P4: a space with an old number, and old frames, has nothing of the old one, even where the TLBs were full of it.
func TestAsidAgain(t *testing.T) {
	d := newDesk(t, ordinary)
	for i := range uint32(5) {
		d.spaces(1)
		size := []int{api.Small, api.Large, api.Section, api.Small, api.Large}[i]
		d.ok(d.Map(1, 0x100000, size, 1, rwx))
		d.ok(d.Switch(1))
		is(t, "load", d.User(api.Load, 0x100ffc, 4, 0), api.Answer{})
		d.User(api.Store, 0x100ffc, 4, 0xdead+i)
		d.User(api.Fetch, 0x100ffc, 4, 0)
		d.ok(d.Destroy(1))
		is(t, "load", d.User(api.Load, 0x100ffc, 4, 0).Fault, api.Fault{Kind: api.FTrans1})
	}
}
