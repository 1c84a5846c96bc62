package board_test

import (
	"strings"
	"testing"
)

// TestPlaces: P1701's table: each command in each of the three states; where it has no place ErrMode stands ahead of all that is wrong with it otherwise.
func TestPlaces(t *testing.T) {
	rows := []struct{ line, empty, managed, bare string }{
		{"boot 256 1 1 1 1 1", "ok", "error 150", "error 150"},
		{"boot 0 0 0 0 0 0", "error 1", "error 150", "error 150"},
		{"bare 256 1 1 1", "ok", "error 150", "error 150"},
		{"bare 0 0 0 0", "error 1", "error 150", "error 150"},
		{"noise none 0", "error 150", "ok", "ok"},
		{"noise evict main 2147483647 2147483647 first", "error 150", "ok", "ok"},
		{"noise fill 0xffffffff fetch 0", "error 150", "ok", "ok"},
		{"create bob", "error 150", "ok 2", "error 150"},
		{"create ada", "error 150", "error 166", "error 150"},
		{"destroy ada", "error 150", "ok", "error 150"},
		{"destroy nobody", "error 150", "error 161", "error 150"},
		{"switch ada", "error 150", "ok", "error 150"},
		{"switch nobody", "error 150", "error 161", "error 150"},
		{"switch -", "error 150", "ok", "error 150"},
		{"map ada 0x2000 4k 1 rw-", "error 150", "ok", "error 150"},
		{"map ada 0x2001 64k 0 -wx", "error 150", "error 1", "error 150"},
		{"unmap ada 0x1000 0x1000", "error 150", "ok", "error 150"},
		{"unmap ada 0x1001 0", "error 150", "error 1", "error 150"},
		{"protect ada 0x1000 0x1000 r--", "error 150", "ok", "error 150"},
		{"protect ada 0x1001 0x1000 -wx", "error 150", "error 2", "error 150"},
		{"share ada 0x5000 ada 0x1000 0x1000 r--", "error 150", "ok", "error 150"},
		{"share ada 0x5001 ada 0x1000 0 -wx", "error 150", "error 1", "error 150"},
		{"query ada 0x1fff", "error 150", "ok 0x1000 4k rw- 1", "error 150"},
		{"query ada 0xffffffff", "error 150", "error 160", "error 150"},
		{"spaces", "error 150", "ok ada*", "error 150"},
		{"load 0x1000 4", "error 150", "ok 0x0", "ok 0x0"},
		{"load 0x1000 4 priv", "error 150", "error 150", "ok 0x0"},
		{"load 0x1000 3", "error 150", "error 1", "error 1"},
		{"load 0x1001 3 priv", "error 150", "error 150", "error 1"},
		{"load 0x1001 4", "error 150", "fault alignment at 0x1001", "fault alignment at 0x1001"},
		{"load 0x1001 4 priv", "error 150", "error 150", "fault alignment at 0x1001"},
		{"store 0x1ffc 4 0xffffffff", "error 150", "ok", "ok"},
		{"store 0x1ffc 4 0xffffffff priv", "error 150", "error 150", "ok"},
		{"store 0x1ffc 0 0xffffffff", "error 150", "error 1", "error 1"},
		{"store 0x1ffc 8 0xffffffff priv", "error 150", "error 150", "error 1"},
		{"fetch 0x1000 4", "error 150", "fault permission 2 domain 1 at 0x1000", "ok 0x0"},
		{"fetch 0x1000 4 priv", "error 150", "error 150", "ok 0x0"},
		{"fetch 0x1000 2147483647", "error 150", "error 1", "error 1"},
		{"fetch 0x1000 2147483647 priv", "error 150", "error 150", "error 1"},
		{"poke 0x2000 0xffffffff", "error 150", "error 150", "ok"},
		{"poke 0x2001 0", "error 150", "error 150", "error 2"},
		{"peek 0x2000", "error 150", "error 150", "ok 0x0"},
		{"peek 0xff_ffff_fffc", "error 150", "error 150", "error 30"},
		{"mcr 3 0 0 0 5", "error 150", "error 150", "ok"},
		{"mcr 15 7 15 7 5", "error 150", "error 150", "error 80"},
		{"mcr 3 0 0 0 5 user", "error 150", "error 150", "error 81"},
		{"mrc 3 0 0 0", "error 150", "error 150", "ok 0x0"},
		{"mrc 15 7 15 7", "error 150", "error 150", "error 80"},
		{"mrc 3 0 0 0 user", "error 150", "error 150", "error 81"},
		{"dirty", "error 150", "error 150", "ok 0"},
	}
	for _, row := range rows {
		for state, k := range states(t) {
			want := map[string]string{"empty": row.empty, "managed": row.managed, "bare": row.bare}[state]
			if got := k.b.Line(row.line); got != want {
				t.Errorf("%s: %q: %q, not %q", state, row.line, got, want)
			}
		}
	}
}

// noCommands: lines that do not parse, each with its error's number: of commands of every state.
var noCommands = map[string]int{
	"fly":                               151,
	"Boot 512 2 2 4 3 2":                151,
	"\n":                                151,
	"spaces\n":                          151,
	"\xff":                              151,
	"boot":                              152,
	"boot 512 2 2 4 3":                  152,
	"boot 512 2 2 4 3 2 1":              152,
	"boot 512 2 2 4 3 x":                11,
	"boot 2147483648 2 2 4 3 2":         11,
	"bare 256 2 2":                      152,
	"bare 256 2 2 2 2":                  152,
	"bare 256 2 2 -2":                   11,
	"noise":                             152,
	"noise some 0":                      12,
	"noise none 0 last":                 12,
	"noise evict tlb 0 0":               12,
	"noise fill 0x100000000 load 0":     11,
	"create":                            152,
	"create 9a":                         10,
	"create -":                          10,
	"create abcdefghijklmnopq":          10,
	"create ada bob":                    152,
	"destroy -":                         10,
	"destroy":                           152,
	"switch":                            152,
	"switch 0":                          10,
	"switch - -":                        152,
	"map ada 0x10000 64x 1 rw-":         12,
	"map ada 0x10000 64k 1 rw":          12,
	"map ada 0x10000 64k -1 rw-":        11,
	"map ada 0x10000 64k 1":             152,
	"unmap ada 0x1000":                  152,
	"unmap ada 0x1000 0x100_0000_0000":  11,
	"protect ada 0x1000 0x1000":         152,
	"protect ada 0x1000 0x1000 abc":     12,
	"share ada 0 - 0 0x1000 rw-":        10,
	"share ada 0 bob 0 0x1000":          152,
	"query ada":                         152,
	"query ada 0x1_0000_0000":           11,
	"load 0 4 user":                     12,
	"load 0 4 priv priv":                152,
	"store 0 4":                         152,
	"store 0 4 priv":                    11,
	"fetch 0":                           152,
	"spaces now":                        152,
	"poke 0":                            152,
	"poke 0 0x1_0000_0000":              11,
	"peek x":                            11,
	"peek":                              152,
	"mcr 16 0 0 0 0":                    11,
	"mcr 0 8 0 0 0":                     11,
	"mcr 1 0 0 0 1 priv":                12,
	"mrc 1 0 0":                         152,
	"mrc 1 0 0 8":                       11,
	"dirty all":                         152,
	strings.Repeat("a", 257):            153,
	"spaces" + strings.Repeat(" ", 251): 153,
	"#" + strings.Repeat("a", 256):      153,
}

// TestNoCommand: a line that does not parse, in each state; the line is parsed ahead of asking whether the command has a place; and nothing has changed.
func TestNoCommand(t *testing.T) {
	for state, k := range states(t) {
		for line, n := range noCommands {
			if got := k.b.Line(line); got != errno(n) {
				t.Errorf("%s: %.60q: %q, not %q", state, line, got, errno(n))
			}
		}
		k.stands(state)
	}
}

// stands: the board is in that state still, as states left it.
func (k *talk) stands(state string) {
	k.t.Helper()
	switch state {
	case "empty":
		k.all("spaces", "error 150", "dirty", "error 150", "noise none 0", "error 150", "load 0 4", "error 150")
	case "managed":
		k.all("spaces", "ok ada*", "load 0x1000 4", "ok 0x0", "query ada 0x1000", "ok 0x1000 4k rw- 1", "dirty", "error 150")
	default:
		k.all("dirty", "ok 0", "peek 0", "ok 0x0", "mrc 1 0 0 0", "ok 0x0", "spaces", "error 150")
	}
}

// TestNoWord: a line without a word, and one that is a comment alone, in each state: the empty reply, and nothing has changed.
func TestNoWord(t *testing.T) {
	for state, k := range states(t) {
		k.same("", "", " ", "\t\r\u00a0\u2003\u3000", "#", "# spaces", "  # boot 512 2 2 4 3 2", "##", "#\xff", strings.Repeat(" ", 256), "#"+strings.Repeat("a", 255))
		k.stands(state)
	}
}

// TestLongest: a line of 256 bytes is taken.
func TestLongest(t *testing.T) {
	for state, want := range map[string]string{"empty": "error 150", "managed": "ok ada*", "bare": "error 150"} {
		states(t)[state].same(want, "spaces"+strings.Repeat(" ", 250), "spaces #"+strings.Repeat("x", 248), strings.Repeat("\t", 250)+"spaces")
	}
}

// TestRefusedBeginnings: a boot or a bare that is refused leaves the board empty; the limits, and right beyond them.
func TestRefusedBeginnings(t *testing.T) {
	k := newTalk(t)
	refused := []string{
		"boot 255 1 1 1 1 1", "boot 0 1 1 1 1 1", "boot 257 1 1 1 1 1", "boot 384 1 1 1 1 1", "boot 65792 1 1 1 1 1", "boot 2147483392 1 1 1 1 1",
		"boot 256 0 1 1 1 1", "boot 256 65 1 1 1 1", "boot 256 1 0 1 1 1", "boot 256 1 65 1 1 1", "boot 256 1 1 0 1 1", "boot 256 1 1 65 1 1",
		"boot 256 1 1 1 0 1", "boot 256 1 1 1 256 1", "boot 256 1 1 1 1 0", "boot 256 1 1 1 1 8", "boot 256 1 1 1 1 2147483647",
		"bare 255 1 1 1", "bare 0 1 1 1", "bare 300 1 1 1", "bare 65792 1 1 1", "bare 256 0 1 1", "bare 256 65 1 1", "bare 256 1 0 1", "bare 256 1 65 1", "bare 256 1 1 0", "bare 256 1 1 65",
	}
	for _, line := range refused {
		k.says(line, "error 1")
		k.stands("empty")
	}
	for _, line := range []string{"boot 256 1 1 1 1 1", "boot 65536 64 64 64 255 7", "boot 512 1 64 1 255 1"} {
		begun := newTalk(t)
		begun.same("error 1", refused...)
		begun.all(line, "ok", "spaces", "ok", "create a", "ok 1")
	}
	for _, line := range []string{"bare 256 1 1 1", "bare 65536 64 64 64", "bare 1024 1 64 1"} {
		begun := newTalk(t)
		begun.same("error 1", refused...)
		begun.all(line, "ok", "dirty", "ok 0", "peek 0xffffc", "ok 0x0")
	}
}

// TestConfig: each number of a boot and of a bare goes to its own field.
func TestConfig(t *testing.T) {
	newTalk(t, "boot 512 1 1 1 3 4").all(
		"create a", "ok 1", "create b", "ok 2", "create c", "ok 3", "create d", "error 162", // 3 numbers
		"query a 0xfffffff", "error 164", "query a 0x10000000", "error 160", // N is 4
		"load 0xc01ffffc 4", "fault permission 1 domain 0 at 0xc01ffffc", "load 0xc0200000 4", "fault translation 1 at 0xc0200000") // 2 MiB
	newTalk(t, "bare 512 1 1 1").all("peek 0x1ffffc", "ok 0x0", "peek 0x200000", "error 30")
	// A section and a page are translated by D and by the main one; which of them have two places is told by what is left behind a change of the tables.
	for line, left := range map[string][2]string{
		"bare 256 1 1 1": {"fault translation 1 at 0x8", "ok 0x0"},
		"bare 256 1 2 1": {"ok 0x0", "ok 0x0"},
		"bare 256 1 1 2": {"ok 0x0", "ok 0x0"},
		"bare 256 2 1 1": {"fault translation 1 at 0x8", "ok 0x0"},
	} {
		k := newTalk(t, line, "poke 0x4000 0xc02", "poke 0x4004 0xc02", "mcr 2 0 0 0 0x4000", "mcr 3 0 0 0 1", "mcr 1 0 0 0 1", "load 0x8 4", "load 0x100008 4", "poke 0x4000 0", "poke 0x4004 0")
		k.all("load 0x100008 4", left[1])
		k.all("load 0x8 4", left[0])
	}
	for line, want := range map[string]string{"bare 256 1 2 1": "fault translation 1 at 0x8", "bare 256 2 1 1": "ok 0x0"} {
		k := newTalk(t, line, "poke 0x4000 0xc02", "poke 0x4004 0xc02", "mcr 2 0 0 0 0x4000", "mcr 3 0 0 0 1", "mcr 1 0 0 0 1", "fetch 0x8 4", "fetch 0x100008 4", "poke 0x4000 0", "poke 0x4004 0")
		k.says("fetch 0x8 4", want)
	}
}

// TestSecondBeginning: ErrMode for every further boot and bare, whatever it says, and the board is as it was.
func TestSecondBeginning(t *testing.T) {
	for _, state := range []string{"managed", "bare"} {
		k := states(t)[state]
		k.same("error 150", booting, "boot 256 1 1 1 1 1", "boot 0 0 0 0 0 0", baring, "bare 512 1 1 1", "bare 0 0 0 0")
		k.stands(state)
	}
}
