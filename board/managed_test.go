package board_test

import (
	"fmt"
	"testing"
)

// TestQuery: a window's first and last byte, the ones beside it, and where there is none; all sizes and rights.
func TestQuery(t *testing.T) {
	k := newTalk(t, "boot 12288 1 1 1 2 2", "create ada", "create bob")
	k.oks("map ada 0x0 4k 1 ---", "map ada 0x10000 64k 2 r--", "map ada 0x100000 1m 1 r-x", "map ada 0x1000000 16m 1 rwx", "map ada 0x3ffff000 4k 1 rw-")
	k.all("query ada 0x0", "ok 0x0 4k --- 1", "query ada 0xfff", "ok 0x0 4k --- 1", "query ada 0x1000", "error 164")
	k.all("query ada 0xffff", "error 164", "query ada 0x10000", "ok 0x10000 64k r-- 1", "query ada 0x1ffff", "ok 0x10000 64k r-- 1")
	k.all("query ada 0x20000", "ok 0x20000 64k r-- 1", "query ada 0x2ffff", "ok 0x20000 64k r-- 1", "query ada 0x30000", "error 164")
	k.all("query ada 0xfffff", "error 164", "query ada 0x100000", "ok 0x100000 1m r-x 1", "query ada 0x1fffff", "ok 0x100000 1m r-x 1", "query ada 0x200000", "error 164")
	k.all("query ada 0xffffff", "error 164", "query ada 0x1000000", "ok 0x1000000 16m rwx 1", "query ada 0x1ffffff", "ok 0x1000000 16m rwx 1", "query ada 0x2000000", "error 164")
	k.all("query ada 0x3ffff000", "ok 0x3ffff000 4k rw- 1", "query ada 0x3fffffff", "ok 0x3ffff000 4k rw- 1", "query ada 0x40000000", "error 160", "query ada 0xffffffff", "error 160")
	k.same("error 164", "query bob 0x0", "query bob 0x10000", "query bob 0x3fffffff")
	k.all("share bob 0x50000 ada 0x10000 0x10000 rw-", "ok", "query bob 0x5abcd", "ok 0x50000 64k rw- 2", "query ada 0x10000", "ok 0x10000 64k r-- 2", "query ada 0x20000", "ok 0x20000 64k r-- 1")
	k.all("protect bob 0x50000 0x10000 ---", "ok", "query bob 0x50000", "ok 0x50000 64k --- 2", "destroy ada", "ok", "query bob 0x50000", "ok 0x50000 64k --- 1")
}

// TestUsesOfMany: they are told as a decimal number, up to the limit; then ErrShared.
func TestUsesOfMany(t *testing.T) {
	k := newTalk(t, booting, "create ada", "map ada 0x0 4k 1 rw-")
	for i := 1; i < 255; i++ {
		k.says(fmt.Sprintf("share ada 0x%x ada 0 0x1000 r--", 4096*i), "ok")
	}
	k.all("query ada 0x0", "ok 0x0 4k rw- 255", "share ada 0xff000 ada 0 0x1000 r--", "error 167", "query ada 0xfe000", "ok 0xfe000 4k r-- 255")
}

// TestManagedWords: each word of a command goes to its own place in the manager's call.
func TestManagedWords(t *testing.T) {
	k := newTalk(t, booting, "create ada", "create bob")
	k.all("map bob 0x2000 4k 3 r-x", "ok", "query bob 0x1fff", "error 164", "query bob 0x2000", "ok 0x2000 4k r-x 1", "query bob 0x4fff", "ok 0x4000 4k r-x 1", "query bob 0x5000", "error 164", "query ada 0x2000", "error 164")
	k.all("map ada 0x2000 4k 1 rw-", "ok", "unmap bob 0x3000 0x2000", "ok", "query bob 0x2000", "ok 0x2000 4k r-x 1", "query bob 0x3000", "error 164", "query bob 0x4000", "error 164", "query ada 0x2000", "ok 0x2000 4k rw- 1")
	k.all("map bob 0x3000 4k 2 r--", "ok", "protect bob 0x2000 0x2000 rwx", "ok", "query bob 0x2000", "ok 0x2000 4k rwx 1", "query bob 0x3000", "ok 0x3000 4k rwx 1", "query bob 0x4000", "ok 0x4000 4k r-- 1")
	k.all("share ada 0x10000 bob 0x3000 0x2000 r--", "ok", "query ada 0x10000", "ok 0x10000 4k r-- 2", "query ada 0x11000", "ok 0x11000 4k r-- 2", "query ada 0x12000", "error 164",
		"query bob 0x2000", "ok 0x2000 4k rwx 1", "query bob 0x3000", "ok 0x3000 4k rwx 2", "query bob 0x4000", "ok 0x4000 4k r-- 2", "query bob 0x10000", "error 164")
	k.all("share ada 0x20000 ada 0x2000 0x1000 ---", "ok", "query ada 0x20000", "ok 0x20000 4k --- 2", "query ada 0x2000", "ok 0x2000 4k rw- 2") // to is from
}

// TestManagedErrors: each error of the manager, as a reply.
func TestManagedErrors(t *testing.T) {
	k := newTalk(t, booting, "create ada", "map ada 0x10000 64k 1 rw-")
	k.same("error 1", "map ada 0 4k 0 rw-", "map ada 0 4k 257 rw-", "unmap ada 0 0", "protect ada 0 0 rw-", "share ada 0 ada 0 0 rw-")
	k.same("error 2", "map ada 0x1000 64k 1 rw-", "unmap ada 0x10 0x1000", "unmap ada 0 0x10", "protect ada 0x10 0x1000 r--", "share ada 0x10 ada 0 0x1000 r--", "share ada 0 ada 0x10 0x1000 r--", "share ada 0x31000 ada 0x10000 0x10000 r--")
	k.same("error 160", "map ada 0x3ffff000 4k 2 rw-", "unmap ada 0 0xff_ffff_f000", "protect ada 0x40000000 0x1000 r--", "share ada 0xfffff000 ada 0x10000 0x10000 r--", "query ada 0x40000000")
	k.same("error 71", "map ada 0 4k 1 -w-", "protect ada 0x10000 0x10000 --x", "share ada 0x20000 ada 0x10000 0x10000 -wx")
	k.same("error 163", "map ada 0x1f000 4k 1 rw-", "map ada 0x0 4k 17 rw-", "share ada 0x10000 ada 0x10000 0x10000 r--")
	k.same("error 164", "unmap ada 0 0x1000", "unmap ada 0x10000 0x11000", "protect ada 0x20000 0x1000 r--", "share ada 0x30000 ada 0 0x1000 r--", "query ada 0xffff")
	k.same("error 165", "unmap ada 0x10000 0x1000", "protect ada 0x11000 0xf000 r--", "share ada 0x30000 ada 0x10000 0xf000 r--")
	k.same("error 42", "map ada 0x1000000 16m 1 rw-", "map ada 0x100000 1m 2 rw-", "map ada 0x100000 64k 31 rw-")
	k.all("query ada 0x1ffff", "ok 0x10000 64k rw- 1", "map ada 0x100000 1m 1 rw-", "ok", "unmap ada 0x10000 0x10000", "ok", "spaces", "ok ada")
}

// TestManagedAccess: loads, stores and fetches of each width, with and without a fault, the fault's text and address.
func TestManagedAccess(t *testing.T) {
	k := newTalk(t, "boot 12288 2 2 4 2 2", "create ada", "switch ada")
	k.oks("map ada 0x1000 4k 1 rwx", "map ada 0x10000 64k 1 r--", "map ada 0x100000 1m 1 ---", "map ada 0x1000000 16m 1 r--", "map ada 0x3ffff000 4k 1 r-x")
	k.all("store 0x1ffc 4 0x89abcdef", "ok", "load 0x1ffc 4", "ok 0x89abcdef", "fetch 0x1ffc 4", "ok 0x89abcdef", "load 0x1ffc 2", "ok 0xcdef", "fetch 0x1ffe 2", "ok 0x89ab", "load 0x1fff 1", "ok 0x89", "fetch 0x1ffd 1", "ok 0xcd")
	k.all("store 0x1ffd 1 0x12345678", "ok", "store 0x1ffe 2 0xfedcba98", "ok", "load 0x1ffc 4", "ok 0xba9878ef")
	k.all("load 0x1ffd 2", "fault alignment at 0x1ffd", "store 0x1ffe 4 0", "fault alignment at 0x1ffe", "fetch 0xffffffff 2", "fault alignment at 0xffffffff")
	k.all("load 0x2000 4", "fault translation 2 domain 1 at 0x2000", "store 0x0 1 0", "fault translation 2 domain 1 at 0x0", "fetch 0x20000 4", "fault translation 2 domain 1 at 0x20000")
	k.all("load 0x200000 4", "fault translation 1 at 0x200000", "store 0xffffffff 1 1", "fault translation 1 at 0xffffffff", "fetch 0x40000000 4", "fault translation 1 at 0x40000000")
	k.all("load 0x1fffc 4", "ok 0x0", "store 0x1fffc 4 1", "fault permission 2 domain 1 at 0x1fffc", "fetch 0x10000 4", "fault permission 2 domain 1 at 0x10000")
	k.all("load 0x100000 4", "fault permission 1 domain 1 at 0x100000", "store 0x1ffffc 4 1", "fault permission 1 domain 1 at 0x1ffffc", "fetch 0x180000 4", "fault permission 1 domain 1 at 0x180000")
	k.all("load 0x1fffffc 4", "ok 0x0", "store 0x1000000 4 1", "fault permission 1 domain 0 at 0x1000000", "fetch 0x1ffffff 1", "fault permission 1 domain 0 at 0x1ffffff")
	k.all("fetch 0x3fffffff 1", "ok 0x0", "load 0x3ffffffe 2", "ok 0x0", "store 0x3fffffff 1 1", "fault permission 2 domain 1 at 0x3fffffff")
	k.all("load 0xc0000000 4", "fault permission 1 domain 0 at 0xc0000000", "store 0xc0000000 4 0", "fault permission 1 domain 0 at 0xc0000000", "fetch 0xc2ffffff 1", "fault permission 1 domain 0 at 0xc2ffffff", "load 0xc3000000 4", "fault translation 1 at 0xc3000000")
	k.same("error 1", "load 0x1000 0", "load 0x1001 3", "store 0x1000 5 1", "store 0x1000 8 1", "fetch 0x1000 16", "fetch 0xffffffff 3")
	k.same("error 150", "load 0x1000 4 priv", "load 0x1000 3 priv", "store 0x1000 4 1 priv", "store 0x1001 4 1 priv", "fetch 0x1000 4 priv", "fetch 0x1000 0 priv")
	k.all("load 0x1000 4", "ok 0x0", "load 0x1ffc 4", "ok 0xba9878ef") // no refused store has changed a byte
	k.all("switch -", "ok", "load 0x1ffc 4", "fault translation 1 at 0x1ffc", "fetch 0x1ffc 4", "fault translation 1 at 0x1ffc", "store 0x1ffc 4 0", "fault translation 1 at 0x1ffc", "load 0x1ffd 4", "fault alignment at 0x1ffd")
}

// TestNoiseLimit: 4096 wait, and no more; a step takes one, with a fault too; what is no step takes none.
func TestNoiseLimit(t *testing.T) {
	for state, k := range states(t) {
		if state == "empty" {
			continue
		}
		for i := range 4096 {
			k.says([]string{"noise none 0", "noise evict d 1 0", "noise fill 0x1000 load 1 first", "noise fill 0xc0000000 fetch 0"}[i%4], "ok")
		}
		k.same("error 1", "noise none 0", "noise evict i 0 0", "noise fill 0 fetch 0 first")
		k.all("load 0x1000 3", "error 1", "boot 0 0 0 0 0 0", "error 150", "", "")
		k.says("noise none 0", "error 1")
		k.all("load 0x1000 4", "ok 0x0", "noise none 0", "ok", "noise none 0", "error 1")
		k.all("load 0x1001 4", "fault alignment at 0x1001", "noise none 0", "ok", "noise none 0", "error 1")
		if state == "managed" {
			k.all("spaces", "ok ada*", "query ada 0x1000", "ok 0x1000 4k rw- 1", "switch ada", "ok", "create ada", "error 166", "unmap ada 0 0x1000", "error 164", "noise none 0", "error 1")
			k.oks("create bob") // one step: its root is wiped
		} else {
			k.all("peek 0", "ok 0x0", "mrc 1 0 0 0", "ok 0x0", "dirty", "ok 0", "poke 1 0", "error 2", "mcr 1 0 0 0 0 user", "error 81", "noise none 0", "error 1")
			k.oks("poke 0 0")
		}
		k.all("noise none 0", "ok", "noise none 0", "error 1")
	}
}
