package board_test

import (
	"fmt"
	"runtime"
	"strings"
	"sync"
	"testing"
	"time"

	"atlas/board"
)

// runs: what Run answers to a text.
func runs(t *testing.T, text, want string) {
	t.Helper()
	if got := board.Run(text); got != want {
		t.Errorf("Run(%.80q): %.80q, not %.80q", text, got, want)
	}
}

// TestRunCuts: P1702: the line feeds cut, and nothing else does; behind the last one is a line only if anything stands there.
func TestRunCuts(t *testing.T) {
	runs(t, "", "")
	runs(t, "\n", "\n")
	runs(t, "\n\n\n", "\n\n\n")
	runs(t, " ", "\n")
	runs(t, "# rest", "\n")
	runs(t, "fly", "error 151\n")
	runs(t, "fly\n", "error 151\n")
	runs(t, "fly\n\n", "error 151\n\n")
	runs(t, "\nfly", "\nerror 151\n")
	runs(t, "fly\nspaces", "error 151\nerror 150\n")
	runs(t, "fly\n ", "error 151\n\n")
	runs(t, "spaces\r\nspaces\r\n", "error 150\nerror 150\n") // a carriage return is a blank
	runs(t, "spaces\rspaces", "error 152\n")
	runs(t, "spaces\u0085spaces\vspaces\u2028", "error 151\n")
	runs(t, "# a\nspaces # b\n", "\nerror 150\n")
	runs(t, "spaces\x00\n\xff\n", "error 151\nerror 151\n")
	runs(t, strings.Repeat("a", 256)+"\n"+strings.Repeat("a", 257), "error 151\nerror 153\n")
	runs(t, strings.Repeat("a", 100000)+"\nspaces", "error 153\nerror 150\n")
}

// TestRunOrder: the lines are one board's, in their order.
func TestRunOrder(t *testing.T) {
	runs(t, "spaces\nboot 256 1 1 1 1 1\n\ncreate a\nswitch a\nmap a 0 4k 1 rw-\nstore 0 4 7\nload 0 4\nspaces", "error 150\nok\n\nok 1\nok\nok\nok\nok 0x7\nok a*\n")
	runs(t, "bare 256 1 1 1\npoke 8 1\nload 8 1\npoke 8 2\nload 8 1\nboot 256 1 1 1 1 1", "ok\nok\nok 0x1\nok\nok 0x2\nerror 150\n")
}

// TestRunMany: a text of many lines, and one whose lines are all empty.
func TestRunMany(t *testing.T) {
	text, want := &strings.Builder{}, &strings.Builder{}
	fmt.Fprintln(text, baring)
	fmt.Fprintln(want, "ok")
	for i := range 20000 {
		fmt.Fprintf(text, "poke %#x %d\npeek 0x%x\n", i%1000*4, i, i%1000*4)
		fmt.Fprintf(want, "ok\nok 0x%x\n", i)
	}
	runs(t, text.String(), want.String())
	runs(t, strings.Repeat("\n", 300000), strings.Repeat("\n", 300000))
}

// TestRunIsLineByLine: what Run answers is what a board does that is given the lines one by one.
func TestRunIsLineByLine(t *testing.T) {
	for seed := range int64(4) {
		lines := anyLines(seed, 120)
		b, want := board.New(), ""
		for _, line := range lines {
			want += b.Line(line) + "\n"
		}
		runs(t, strings.Join(lines, "\n"), want)
		runs(t, strings.Join(lines, "\n")+"\n", want)
	}
}

// TestRunAnew: each Run has a board of its own, at the same time too; and what it began has ended behind it.
func TestRunAnew(t *testing.T) {
	text, want := "boot 256 1 1 1 1 1\ncreate a\nswitch a\nmap a 0 4k 1 rw-\nload 0 4\nstore 0 4 7\nload 0 4", "ok\nok 1\nok\nok\nok 0x0\nok\nok 0x7\n"
	ahead := runtime.NumGoroutine()
	for range 20 {
		runs(t, text, want)
	}
	var all sync.WaitGroup
	for range 8 {
		all.Go(func() {
			for range 20 {
				runs(t, text, want)
			}
		})
	}
	all.Wait()
	for i := 0; runtime.NumGoroutine() > ahead; i++ { // a goroutine that is joined may take a moment to be gone
		if i == 1000 {
			t.Fatalf("%d goroutines, and %d ahead", runtime.NumGoroutine(), ahead)
		}
		time.Sleep(time.Millisecond)
	}
}

// TestTwoBoards: rule 5: boards in turns share neither state, nor names, nor memory, nor noise.
func TestTwoBoards(t *testing.T) {
	one, other, third, last := newTalk(t), newTalk(t), newTalk(t), newTalk(t)
	one.says(booting, "ok")
	other.all("spaces", "error 150", "boot 256 1 1 1 1 1", "ok")
	third.all("spaces", "error 150", baring, "ok")
	last.all("dirty", "error 150", baring, "ok")
	one.all("create ada", "ok 1", "create bob", "ok 2")
	other.all("spaces", "ok", "create bob", "ok 1", "create ada", "error 162")
	one.all("map ada 0x1000 4k 1 rw-", "ok", "switch ada", "ok", "store 0x1000 4 7", "ok")
	other.all("query bob 0x1000", "error 164", "spaces", "ok bob", "load 0x1000 4", "fault translation 1 at 0x1000", "map bob 0x1000 4k 1 rw-", "ok", "switch bob", "ok", "load 0x1000 4", "ok 0x0", "store 0x1000 4 8", "ok")
	third.all("poke 0x1000 9", "ok", "mcr 3 0 0 0 5", "ok")
	last.all("peek 0x1000", "ok 0x0", "mrc 3 0 0 0", "ok 0x0")
	one.all("destroy bob", "ok", "load 0x1000 4", "ok 0x7", "spaces", "ok ada*")
	other.all("spaces", "ok bob*", "load 0x1000 4", "ok 0x8")
	for range 4096 {
		one.says("noise none 0", "ok")
		third.says("noise none 0", "ok")
	}
	one.says("noise none 0", "error 1")
	third.says("noise none 0", "error 1")
	other.says("noise none 0", "ok")
	last.says("noise none 0", "ok")
}
