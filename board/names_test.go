package board_test

import (
	"fmt"
	"slices"
	"strings"
	"testing"
)

// TestCreate: the least number that is not live, and the name from then on.
func TestCreate(t *testing.T) {
	k := newTalk(t, "boot 512 1 1 1 4 2")
	k.all("create a", "ok 1", "create A", "ok 2", "create å", "ok 3", "create Ωmega_9", "ok 4", "spaces", "ok a A å Ωmega_9")
	k.same("error 166", "create a", "create A", "create å", "create Ωmega_9") // ahead of there being no number left
	k.all("create b", "error 162", "query b 0", "error 161", "spaces", "ok a A å Ωmega_9")
	k.all("destroy A", "ok", "create b", "ok 2", "spaces", "ok a b å Ωmega_9", "create A", "error 162")
	k.all("destroy a", "ok", "destroy å", "ok", "create å", "ok 1", "create a", "ok 3", "spaces", "ok å b a Ωmega_9")
}

// TestLongestName: 16 runes, of two bytes each.
func TestLongestName(t *testing.T) {
	long := strings.Repeat("Ω", 16)
	newTalk(t, booting).all("create "+long, "ok 1", "create "+long, "error 166", "create "+long+"Ω", "error 10",
		"switch "+long, "ok", "spaces", "ok "+long+"*", "destroy "+long, "ok", "spaces", "ok")
}

// TestNoNumberLeft: 255 spaces, and no more; each has the name that it was given.
func TestNoNumberLeft(t *testing.T) {
	k := newTalk(t, "boot 1024 1 1 1 255 2")
	told := "ok"
	for i := 1; i <= 255; i++ {
		name := fmt.Sprintf("s%d", 1000-i) // they fall as the numbers rise
		k.says("create "+name, fmt.Sprint("ok ", i))
		told += " " + name
	}
	k.all("create more", "error 162", "create s745", "error 166", "create s999", "error 166", "spaces", told)
	k.all("switch s745", "ok", "spaces", told+"*", "destroy s900", "ok", "create more", "ok 100", "create s900", "error 162")
	k.says("spaces", strings.Replace(told+"*", " s900 ", " more ", 1))
}

// TestNoFrameLeft: a root has two frames with N 1; the refused name stays free.
func TestNoFrameLeft(t *testing.T) {
	k := newTalk(t, "boot 256 1 1 1 255 1")
	for i := 1; i <= 124; i++ {
		k.says(fmt.Sprint("create s", i), fmt.Sprint("ok ", i))
	}
	k.all("create more", "error 42", "create more", "error 42", "create s7", "error 166", "switch more", "error 161")
	k.all("destroy s7", "ok", "create more", "ok 7", "create s7", "error 42", "switch more", "ok")
}

// naming: each command that names spaces, with a place for a name that is no live space's, and with mistakes beside it that the manager would tell.
var naming = []string{
	"destroy %s", "switch %s",
	"map %s 0x2000 4k 1 rw-", "map %s 0x2001 4k 1 rw-", "map %s 0x2000 4k 0 rw-", "map %s 0xfffff000 4k 1 rw-", "map %s 0x2000 4k 1 -wx",
	"unmap %s 0x1000 0x1000", "unmap %s 0x1001 0x1000", "unmap %s 0x1000 0", "unmap %s 0xfffff000 0x1000",
	"protect %s 0x1000 0x1000 r--", "protect %s 0x1001 0x1000 r--", "protect %s 0x1000 0 r--", "protect %s 0xfffff000 0x1000 r--", "protect %s 0x1000 0x1000 --x",
	"share %s 0x2000 ada 0x1000 0x1000 r--", "share ada 0x2000 %s 0x1000 0x1000 r--", "share %[1]s 0x2000 %[1]s 0x1000 0x1000 r--",
	"share %s 0x2001 ada 0x1000 0 --x", "share ada 0x2001 %s 0x1000 0 --x", "share ada 0xfffff000 %s 0x1000 0x1000 r--", "share %s 0x2000 ada 0xfffff000 0x1000 r--",
	"query %s 0x1000", "query %s 0xffffffff",
}

// TestNoSpace: a name that was never a space's, one that is no more, and one that is almost a live one's: ErrNoSpace, and nothing has changed.
func TestNoSpace(t *testing.T) {
	k := newTalk(t, booting, "create ada", "map ada 0x1000 4k 1 rw-", "create gone", "map gone 0x1000 4k 1 rw-", "destroy gone", "switch ada")
	for _, name := range []string{"nobody", "gone", "ad", "adaa", "Ada", "ada_", "åda"} {
		for _, line := range naming {
			k.says(fmt.Sprintf(line, name), "error 161")
		}
	}
	k.all("spaces", "ok ada*", "query ada 0x1000", "ok 0x1000 4k rw- 1", "query ada 0x2000", "error 164")
}

// TestNoSpaceAtAll: likewise, where no space is live.
func TestNoSpaceAtAll(t *testing.T) {
	k := newTalk(t, booting)
	for _, line := range naming {
		k.says(fmt.Sprintf(line, "ada"), "error 161")
	}
	k.all("spaces", "ok", "switch -", "ok", "spaces", "ok")
}

// TestSpaces: with none, with several, rising by number and not by name, the current one marked wherever it stands.
func TestSpaces(t *testing.T) {
	k := newTalk(t, "boot 512 1 1 1 5 2")
	k.all("spaces", "ok", "create zed", "ok 1", "spaces", "ok zed", "create mid", "ok 2", "create ada", "ok 3", "spaces", "ok zed mid ada")
	k.all("switch zed", "ok", "spaces", "ok zed* mid ada", "switch mid", "ok", "spaces", "ok zed mid* ada", "switch ada", "ok", "spaces", "ok zed mid ada*")
	k.all("switch ada", "ok", "spaces", "ok zed mid ada*", "switch -", "ok", "spaces", "ok zed mid ada", "switch -", "ok", "spaces", "ok zed mid ada")
	k.all("destroy zed", "ok", "spaces", "ok mid ada", "create nil", "ok 1", "spaces", "ok nil mid ada", "switch mid", "ok", "destroy nil", "ok", "spaces", "ok mid* ada")
	k.all("destroy mid", "ok", "spaces", "ok ada", "create mid", "ok 1", "spaces", "ok mid ada") // the current one is gone, and no other one is current
}

// TestFreeNameIsNew: a space that gets a name which was free again has nothing of the old one's.
func TestFreeNameIsNew(t *testing.T) {
	k := newTalk(t, booting, "create ada", "map ada 0x1000 4k 1 rw-", "switch ada", "store 0x1000 4 7")
	k.all("destroy ada", "ok", "destroy ada", "error 161", "create ada", "ok 1", "spaces", "ok ada", "query ada 0x1000", "error 164")
	k.all("switch ada", "ok", "load 0x1000 4", "fault translation 1 at 0x1000", "map ada 0x1000 4k 1 rw-", "ok", "load 0x1000 4", "ok 0x0")
}

// TestNamesTurn: P1703: names that come and go, held against what create said.
func TestNamesTurn(t *testing.T) {
	k := newTalk(t, "boot 256 1 1 1 3 2")
	var live [4]string // by numbers
	for i := range 400 {
		name := fmt.Sprintf("n%d", i*i%5)
		at, free := slices.Index(live[1:], name)+1, slices.Index(live[1:], "")+1 // 0: none
		switch {
		case i%3 == 0 && at == 0:
			k.says("destroy "+name, "error 161")
		case i%3 == 0:
			k.says("destroy "+name, "ok")
			live[at] = ""
		case at != 0:
			k.says("create "+name, "error 166")
		case free == 0:
			k.says("create "+name, "error 162")
		default:
			k.says("create "+name, fmt.Sprint("ok ", free))
			live[free] = name
		}
		k.says("spaces", strings.Join(append([]string{"ok"}, strings.Fields(strings.Join(live[:], " "))...), " "))
	}
}
