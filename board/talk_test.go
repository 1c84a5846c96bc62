package board_test

import (
	"fmt"
	"strings"
	"testing"

	"atlas/board"
)

// The beginnings of the three states.
const (
	booting = "boot 512 2 2 4 3 2"
	baring  = "bare 256 2 2 2"
)

// talk: a board that is spoken to.
type talk struct {
	t *testing.T
	b *board.Board
}

// newTalk: with a new board, to which these lines were said, each answered ok.
func newTalk(t *testing.T, lines ...string) *talk {
	t.Helper()
	b := board.New()
	if b == nil {
		t.Fatal("New answers nil")
	}
	k := &talk{t, b}
	k.oks(lines...)
	return k
}

// says: the reply to a line is this one.
func (k *talk) says(line, want string) {
	k.t.Helper()
	if got := k.b.Line(line); got != want {
		k.t.Fatalf("%.80q: %q, not %q", line, got, want)
	}
}

// all: lines and their replies in turns.
func (k *talk) all(l ...string) {
	k.t.Helper()
	if len(l)%2 != 0 {
		k.t.Fatal("a line without its reply")
	}
	for i := 0; i < len(l); i += 2 {
		k.says(l[i], l[i+1])
	}
}

// same: one reply to many lines.
func (k *talk) same(want string, lines ...string) {
	k.t.Helper()
	for _, line := range lines {
		k.says(line, want)
	}
}

// oks: lines that are answered by ok, with or without something behind it.
func (k *talk) oks(lines ...string) {
	k.t.Helper()
	for _, line := range lines {
		if got := k.b.Line(line); got != "ok" && !strings.HasPrefix(got, "ok ") {
			k.t.Fatalf("%q: %q", line, got)
		}
	}
}

// states: a new board in each of the three.
func states(t *testing.T) map[string]*talk {
	t.Helper()
	return map[string]*talk{
		"empty":   newTalk(t),
		"managed": newTalk(t, booting, "create ada", "map ada 0x1000 4k 1 rw-", "switch ada"),
		"bare":    newTalk(t, baring),
	}
}

// errno: the reply that tells an error.
func errno(n int) string { return fmt.Sprint("error ", n) }
