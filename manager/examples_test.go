package manager_test

import (
	"testing"

	"atlas/api"
)

// TestExamples: the chapter's, one behind the other.
func TestExamples(t *testing.T) {
	d := newDesk(t, ordinary)
	free := func(n int) { t.Helper(); is(t, "Free", d.m.Free(), n) }
	errno := func(got, want api.Errno) { t.Helper(); is(t, "answer", got, want) }
	free(504)
	id, e := d.Create()
	is(t, "Create", id, 1)
	errno(e, api.OK)
	free(503)
	d.steps("Create", wipe(8, 1))
	errno(d.Map(1, 0x10000, api.Large, 1, rw), api.OK)
	var sixteen []step
	for i := range uint64(16) {
		sixteen = append(sixteen, poke(0x9040+4*i, 0x0001983d))
	}
	d.steps("Map", append([]step{wipe(16, 16), wipe(9, 1), poke(0x8000, 0x00009021)}, sixteen...)...)
	free(486)
	errno(d.Map(1, 0x20000, api.Small, 257, r), api.ErrArg)
	errno(d.Map(1, 0x20800, api.Small, 1, r), api.ErrAlign)
	errno(d.Map(1, 0x3ffff000, api.Small, 2, r), api.ErrKernel)
	errno(d.Map(1, 0x20000, api.Small, 1, api.Rights{Write: true}), api.ErrRights)
	errno(d.Map(2, 0x20000, api.Small, 1, rw), api.ErrNoSpace)
	errno(d.Map(1, 0x1f000, api.Small, 1, rw), api.ErrOverlap)
	errno(d.Map(1, 0x1000000, api.Super, 1, rw), api.ErrFrames)
	errno(d.Protect(1, 0x10000, 0x8000, r), api.ErrSplit)
	errno(d.Unmap(1, 0x10000, 0x11000), api.ErrUnmapped)
	errno(d.Unmap(1, 0x10000, 0), api.ErrArg)
	errno(d.Share(1, 0x30000, 1, 0x10000, 0x10000, rx), api.OK)
	w, e := d.query(1, 0x3abcd)
	errno(e, api.OK)
	is(t, "Query", w, api.Window{VA: 0x30000, Size: api.Large, Rights: rx, Uses: 2})
	errno(d.Share(1, 0x41000, 1, 0x10000, 0x10000, r), api.ErrAlign)
	errno(d.Switch(1), api.OK)
	is(t, "User", d.User(api.Store, 0x10004, 4, 7), api.Answer{})
	is(t, "User", d.User(api.Load, 0x30004, 4, 0), api.Answer{Value: 7})
	is(t, "User", d.User(api.Store, 0x30004, 4, 9).Fault, api.Fault{Kind: api.FPerm, Level: 2, Domain: 1})
	is(t, "User", d.User(api.Load, 0x50000, 4, 0).Fault, api.Fault{Kind: api.FTrans2, Domain: 1})
	is(t, "User", d.User(api.Load, 0x40000000, 4, 0).Fault, api.Fault{Kind: api.FTrans1})
	errno(d.Unmap(1, 0x10000, 0x10000), api.OK)
	free(486)
	errno(d.Destroy(1), api.OK)
	free(504)
	is(t, "Current", d.m.Current(), 0)
}

// TestExamplesOfTheWhole: those of DOC.md, as calls.
func TestExamplesOfTheWhole(t *testing.T) {
	d := newDesk(t, ordinary)
	errno := func(got, want api.Errno) { t.Helper(); is(t, "answer", got, want) }
	ada, e := d.Create()
	errno(e, api.OK)
	bob, e := d.Create()
	errno(e, api.OK)
	is(t, "numbers", [2]int{ada, bob}, [2]int{1, 2})
	errno(d.Map(ada, 0x10000, api.Large, 1, rw), api.OK)
	errno(d.Map(ada, 0x1f000, api.Small, 1, r), api.ErrOverlap)
	errno(d.Map(ada, 0x1001, api.Small, 1, r), api.ErrAlign)
	is(t, "load", d.User(api.Load, 0x10000, 4, 0).Fault, api.Fault{Kind: api.FTrans1})
	errno(d.Switch(ada), api.OK)
	is(t, "load", d.User(api.Load, 0x10000, 4, 0), api.Answer{})
	is(t, "store", d.User(api.Store, 0x10004, 4, 0xcafe), api.Answer{})
	is(t, "load", d.User(api.Load, 0x10004, 2, 0), api.Answer{Value: 0xcafe})
	is(t, "load", d.User(api.Load, 0x10006, 4, 0).Fault, api.Fault{Kind: api.FAlign})
	is(t, "fetch", d.User(api.Fetch, 0x10004, 4, 0).Fault, api.Fault{Kind: api.FPerm, Level: 2, Domain: 1})
	errno(d.Share(bob, 0x400000, ada, 0x10000, 0x10000, r), api.OK)
	w, _ := d.query(bob, 0x40ffff)
	is(t, "query", w, api.Window{VA: 0x400000, Size: api.Large, Rights: r, Uses: 2})
	errno(d.Switch(bob), api.OK)
	is(t, "load", d.User(api.Load, 0x400004, 4, 0), api.Answer{Value: 0xcafe})
	is(t, "store", d.User(api.Store, 0x400004, 4, 1).Fault, api.Fault{Kind: api.FPerm, Level: 2, Domain: 1})
	is(t, "load", d.User(api.Load, 0x10004, 4, 0).Fault, api.Fault{Kind: api.FTrans1})
	errno(d.Protect(ada, 0x10000, 0x8000, r), api.ErrSplit)
	errno(d.Unmap(ada, 0x10000, 0x10000), api.OK)
	is(t, "load", d.User(api.Load, 0x400004, 4, 0), api.Answer{Value: 0xcafe})
	errno(d.Destroy(bob), api.OK)
	if l := d.m.Spaces(); len(l) != 1 || l[0] != ada {
		t.Errorf("spaces: %v", l)
	}
	cyd, _ := d.Create()
	is(t, "create", cyd, 2)
	errno(d.Map(cyd, 0x400000, api.Large, 1, rw), api.OK)
	errno(d.Switch(cyd), api.OK)
	is(t, "load", d.User(api.Load, 0x400004, 4, 0), api.Answer{})
	is(t, "load", d.User(api.Load, 0xc0000000, 4, 0).Fault, api.Fault{Kind: api.FPerm, Level: 1})
	errno(d.Map(cyd, 0x3ffff000, api.Small, 2, rw), api.ErrKernel)
}
