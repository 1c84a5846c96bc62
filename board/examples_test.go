package board_test

import (
	"testing"

	"atlas/board"
)

// TestTenExamples: those of the whole, as DOC.md numbers them.
func TestTenExamples(t *testing.T) {
	k := newTalk(t)
	k.all("boot 512 2 2 4 3 2", "ok") // 1
	k.all("create ada", "ok 1", "create ada", "error 166", "create böb", "ok 2")
	k.all("map ada 0x10000 64k 1 rw-", "ok", "map ada 0x1f000 4k 1 r--", "error 163", "map ada 0x1001 4k 1 r--", "error 2")
	k.all("load 0x10000 4", "fault translation 1 at 0x10000", "switch ada", "ok", "load 0x10000 4", "ok 0x0")
	k.all("store 0x10004 4 0xcafe", "ok", "load 0x10004 2", "ok 0xcafe", // 5
		"load 0x10006 4", "fault alignment at 0x10006", "fetch 0x10004 4", "fault permission 2 domain 1 at 0x10004")
	k.all("share böb 0x400000 ada 0x10000 0x10000 r--", "ok", "query böb 0x40ffff", "ok 0x400000 64k r-- 2")
	k.all("switch böb", "ok", "load 0x400004 4", "ok 0xcafe",
		"store 0x400004 4 1", "fault permission 2 domain 1 at 0x400004", "load 0x10004 4", "fault translation 1 at 0x10004")
	k.all("protect ada 0x10000 0x8000 r--", "error 165", "unmap ada 0x10000 0x10000", "ok", "load 0x400004 4", "ok 0xcafe")
	k.all("destroy böb", "ok", "spaces", "ok ada", "create cyd", "ok 2", "map cyd 0x400000 64k 1 rw-", "ok", "switch cyd", "ok", "load 0x400004 4", "ok 0x0")
	k.all("load 0xc0000000 4", "fault permission 1 domain 0 at 0xc0000000", "map cyd 0x3ffff000 4k 2 rw-", "error 160") // 10
}

// TestExamples: those of the chapter.
func TestExamples(t *testing.T) {
	newTalk(t).all("create ada", "error 150", "boot 512 2 2 4 3 8", "error 1", "", "", "# rest", "",
		"spaces", "error 150", "peek 0", "error 150", "boot 512 2 2 4 3 2", "ok")
	for text, want := range map[string]string{
		"boot 256 1 1 1 1 1\ncreate a\ncreate b\n": "ok\nok 1\nerror 162\n",
		"":           "",
		"\n\nspaces": "\n\nerror 150\n",
	} {
		if got := board.Run(text); got != want {
			t.Errorf("Run(%q): %q, not %q", text, got, want)
		}
	}
	newTalk(t).all("bare 256 2 2 2", "ok", "store 0x8 4 0x55 priv", "ok", "load 0x8 1", "ok 0x55",
		"load 0x100000 4", "fault bus at 0x100000", "mrc 6 0 0 0", "ok 0x100000", "create a", "error 150", "mcr 1 0 0 0 1 user", "error 81")
	newTalk(t, booting).all("load 0x0 4 priv", "error 150", "unmap nobody 0x0 0x1000", "error 161")
}
