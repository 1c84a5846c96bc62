package board_test

import "testing"

// TestBareMemory: poke and peek, and accesses where each address stands for itself.
func TestBareMemory(t *testing.T) {
	k := newTalk(t, baring)
	k.all("peek 0", "ok 0x0", "poke 0xffffc 0xdeadbeef", "ok", "peek 0xffffc", "ok 0xdeadbeef", "load 0xffffc 4", "ok 0xdeadbeef", "load 0xffffe 2", "ok 0xdead", "fetch 0xfffff 1", "ok 0xde")
	k.same("error 2", "poke 0xffffd 1", "poke 1 1", "peek 0xfffff", "peek 0xff_ffff_ffff", "poke 0x100001 1")
	k.same("error 30", "poke 0x100000 1", "peek 0x100000", "peek 0x1_0000_0000", "poke 0xff_ffff_fffc 0") // above 32 bits nothing is cut off
	k.all("store 0 4 0x01020304", "ok", "store 1 1 0xff", "ok", "peek 0", "ok 0x102ff04", "load 0 4 priv", "ok 0x102ff04", "store 2 2 0xabcd priv", "ok", "peek 0", "ok 0xabcdff04")
	k.all("load 0x100000 1", "fault bus at 0x100000", "store 0xfffffffc 4 1", "fault bus at 0xfffffffc", "fetch 0xffffffff 1 priv", "fault bus at 0xffffffff", "store 2 4 1", "fault alignment at 0x2", "fetch 1 2", "fault alignment at 0x1")
	k.same("error 1", "load 0 3", "load 0 0 priv", "store 0 5 1", "fetch 0 2147483647 priv")
	k.all("peek 0", "ok 0xabcdff04", "peek 0xffffc", "ok 0xdeadbeef")
}

// TestRegisters: mcr and mrc, of the privileged and of a user; each number of a tuple at its place.
func TestRegisters(t *testing.T) {
	k := newTalk(t, baring)
	k.all("mrc 1 0 0 0", "ok 0x0", "mcr 2 0 0 0 0xffffffff", "ok", "mcr 2 0 0 1 0xffffffff", "ok", "mcr 2 0 0 2 0xffffffff", "ok", "mrc 2 0 0 0", "ok 0xffffff80", "mrc 2 0 0 1", "ok 0xffffc000", "mrc 2 0 0 2", "ok 0x37")
	k.all("mrc 10 0 2 0", "ok 0x98aa4", "mrc 10 0 2 1", "ok 0x44e048e0", "mcr 13 0 0 1 0x12345678", "ok", "mrc 13 0 0 1", "ok 0x12345678", "mcr 3 0 0 0 4_294_967_295", "ok", "mrc 3 0 0 0", "ok 0xffffffff")
	k.same("error 80", "mcr 1 0 0 1 0", "mcr 1 0 1 0 0", "mcr 1 1 0 0 0", "mcr 0 0 0 0 0", "mcr 1 0 0 1 0 user", "mrc 8 0 7 0", "mrc 8 0 7 0 user", "mrc 1 0 0 7", "mrc 7 0 5 4 user", "mcr 8 0 5 3 0", "mcr 15 7 15 7 0")
	k.same("error 81", "mcr 3 0 0 0 0 user", "mcr 8 0 7 0 0 user", "mcr 7 0 8 0 0 user", "mrc 3 0 0 0 user", "mrc 13 0 0 1 user")
	k.same("ok", "mcr 7 0 5 4 0 user", "mcr 7 0 10 4 0 user", "mcr 7 0 10 5 9 user", "mcr 7 0 5 4 0", "mcr 8 0 3 1 0x1000", "mcr 8 0 6 2 5")
	k.all("mrc 3 0 0 0", "ok 0xffffffff")
}

// TestFaultRegisters: a fault is told in the registers of its side, and mrc reads them.
func TestFaultRegisters(t *testing.T) {
	k := newTalk(t, baring, "poke 0x4000 0x402", "mcr 2 0 0 0 0x4000", "mcr 3 0 0 0 1", "mcr 1 0 0 0 1")
	k.all("load 0x200004 4", "fault translation 1 at 0x200004", "mrc 5 0 0 0", "ok 0x5", "mrc 6 0 0 0", "ok 0x200004", "mrc 5 0 0 1", "ok 0x0", "mrc 6 0 0 2", "ok 0x0")
	k.all("fetch 0x300000 4", "fault translation 1 at 0x300000", "mrc 5 0 0 1", "ok 0x5", "mrc 6 0 0 2", "ok 0x300000", "mrc 6 0 0 0", "ok 0x200004")
	k.all("store 0x10 4 1", "fault permission 1 domain 0 at 0x10", "mrc 5 0 0 0", "ok 0x80d", "mrc 6 0 0 0", "ok 0x10")
}

// TestBareSides: what the privileged may and a user may not, of all three accesses.
func TestBareSides(t *testing.T) {
	k := newTalk(t, baring, "poke 0x4000 0x402", "poke 0x4004 0x802", "mcr 2 0 0 0 0x4000", "mcr 3 0 0 0 1", "mcr 1 0 0 0 1")
	k.all("store 0x10 4 5 priv", "ok", "load 0x10 4 priv", "ok 0x5", "fetch 0x10 4 priv", "ok 0x5")
	k.all("store 0x10 4 6", "fault permission 1 domain 0 at 0x10", "load 0x10 4", "fault permission 1 domain 0 at 0x10", "fetch 0x10 4", "fault permission 1 domain 0 at 0x10")
	k.all("load 0x100010 4", "ok 0x5", "fetch 0x100010 4", "ok 0x5", "store 0x100010 4 6", "fault permission 1 domain 0 at 0x100010", "store 0x100010 4 7 priv", "ok", "load 0x100010 4", "ok 0x7", "peek 0x10", "ok 0x7")
}

// TestFaultTexts: each kind of fault as a reply.
func TestFaultTexts(t *testing.T) {
	k := newTalk(t, baring,
		"poke 0x4000 0x0000c021",                                  // a table, domain 1
		"poke 0x4004 0xffff0441",                                  // a table beyond the memory, domain 2
		"poke 0x4008 0x00100c62",                                  // a section beyond the memory, domain 3
		"poke 0x400c 0x00000c82",                                  // a section, domain 4
		"poke 0xc004 0x0000703e",                                  // a page
		"poke 0xc008 0x0000701e",                                  // a page without a user's right
		"mcr 2 0 0 0 0x4000", "mcr 3 0 0 0 0x54", "mcr 1 0 0 0 1") // the domains 1 to 3 are asked, 4 is barred
	k.all("load 0x1000 4", "ok 0x0", "load 0x1001 2", "fault alignment at 0x1001", "load 0x2000 4", "fault permission 2 domain 1 at 0x2000", "load 0x3000 4", "fault translation 2 domain 1 at 0x3000")
	k.all("load 0x100000 4", "fault walk 2 domain 2 at 0x100000", "load 0x200000 4", "fault bus at 0x200000", "load 0x300000 4", "fault domain 1 domain 4 at 0x300000", "load 0x400000 4", "fault translation 1 at 0x400000")
	k.all("mcr 1 0 0 0 0x20000001", "ok", "load 0x2000 4", "fault permission 2 domain 1 at 0x2000", "poke 0xc008 0x0000702e", "ok", "mcr 8 0 7 0 0", "ok", "load 0x2000 4", "fault access 2 domain 1 at 0x2000")
	k.all("mcr 2 0 0 0 0xfff00000", "ok", "mcr 8 0 7 0 0", "ok", "load 0x1000 4", "fault walk 1 at 0x1000")
}

// TestConflict: a page beside the section that was there ahead, both kept by the same TLB.
func TestConflict(t *testing.T) {
	k := newTalk(t, baring, "poke 0x4000 0xc02", "poke 0xc004 0x0000703e", "mcr 2 0 0 0 0x4000", "mcr 3 0 0 0 1", "mcr 1 0 0 0 1")
	k.all("load 0x2000 4", "ok 0x0", "poke 0x4000 0xc001", "ok", "dirty", "ok 1")
	k.all("noise evict d 0 0", "ok", "noise evict main 0 0", "ok", "mcr 7 0 5 4 0", "ok", "load 0x1000 4", "ok 0x0") // the page alone is kept now
	k.all("poke 0x4000 0xc02", "ok", "load 0x2000 4", "ok 0x0", "load 0x1000 4", "fault conflict at 0x1000", "mrc 5 0 0 0", "ok 0x400", "mcr 8 0 7 0 0", "ok", "load 0x1000 4", "ok 0x0", "dirty", "ok 0")
}

// TestDirty: how many dirts there are, as a decimal number.
func TestDirty(t *testing.T) {
	k := newTalk(t, baring, "mcr 2 0 0 0 0x4000", "mcr 3 0 0 0 1", "mcr 1 0 0 0 1")
	k.oks("poke 0x4000 0xc001")
	for _, line := range []string{"poke 0xc000 0x803e", "poke 0xc004 0x803e", "poke 0xc008 0x803e", "poke 0xc00c 0x803e", "poke 0xc010 0x803e", "poke 0xc014 0x803e", "poke 0xc018 0x803e", "poke 0xc01c 0x803e", "poke 0xc020 0x803e", "poke 0xc024 0x803e", "poke 0xc028 0x803e", "poke 0xc02c 0x803e"} {
		k.says(line, "ok")
	}
	k.all("dirty", "ok 0", "poke 0xc000 0", "ok", "dirty", "ok 1", "poke 0x4000 0", "ok", "dirty", "ok 12", "dirty", "ok 12", "mcr 8 0 7 1 0x3000", "ok", "dirty", "ok 11", "mcr 8 0 7 0 0", "ok", "dirty", "ok 0")
}
