package asm_test

import (
	"errors"
	"fmt"
	"strings"
	"testing"

	"atlas/api"
	"atlas/asm"
)

// wrap: an error of another package that wraps one.
type wrap struct{ inner error }

func (w wrap) Error() string { return "wrapped" }
func (w wrap) Unwrap() error { return w.inner }

// faint: its Unwrap panics.
type faint struct{}

func (faint) Error() string { return "faint" }
func (faint) Unwrap() error { panic("faint") }

// liar: it says that it is what is asked for, and gives nothing.
type liar struct{}

func (liar) Error() string { return "liar" }
func (liar) As(any) bool   { return true }

// checkCode: P2104, of an error.
func checkCode(t *testing.T, what string, err error, want api.Errno, line int) {
	t.Helper()
	if err == nil || err.Error() == "" {
		t.Fatalf("%.50q: %v", what, err)
	}
	for e := api.Errno(-300); e < 400; e++ {
		if errors.Is(err, e) != (e == want) {
			t.Errorf("%.50q: errors.Is %d is %v", what, int(e), errors.Is(err, e))
		}
	}
	var errno api.Errno
	if !errors.As(err, &errno) || errno != want {
		t.Errorf("%.50q: errors.As gives %d", what, int(errno))
	}
	for n, x := range []error{err, wrap{err}, wrap{wrap{err}}, fmt.Errorf("x: %w", err), errors.Join(errors.New("x"), err)} {
		if e, at := asm.Code(x); e != want || at != line {
			t.Errorf("%.50q, wrapped %d: %d at %d, want %d at %d", what, n, int(e), at, int(want), line)
		}
	}
}

// P2104: each error of Line, and of Assemble, with its line.
func TestCode(t *testing.T) {
	for line, want := range map[string]api.Errno{"$": api.ErrSyntax, "": api.ErrSyntax, "fly": api.ErrMnemonic, "nop 1": api.ErrOperand, "b x": api.ErrLabel, "b 2": api.ErrReach, "mul r0, r1, pc": api.ErrIns} {
		_, err := asm.Line(line, 0)
		checkCode(t, line, err, want, 0)
		if line == "" {
			continue
		}
		for _, n := range []int{1, 2, 300} {
			text := strings.Repeat("nop\n", n-1) + line + "\nnop"
			_, _, err := asm.Assemble(text)
			checkCode(t, text, err, want, n)
		}
	}
	for text, want := range map[string]api.Errno{"a:\nnop\na:": api.ErrTwice, "nop\n\n.word": api.ErrDirective, ".byte 1\n\nnop": api.ErrReach, ".space 16777216\n@\n.byte 1": api.ErrSize, "\n\n.byte -129": api.ErrReach} {
		_, _, err := asm.Assemble(text)
		checkCode(t, text, err, want, 3)
	}
	for text, want := range map[string]api.Errno{"": api.ErrStart, "\n\n.data\n.byte 1": api.ErrStart, strings.Repeat("\n", 1<<20+1): api.ErrSize} {
		_, _, err := asm.Assemble(text)
		checkCode(t, text, err, want, 0)
	}
}

// An error's text tells its number, and its line if it has one.
func TestErrorText(t *testing.T) {
	if _, err := asm.Line("fly", 0); err == nil || err.Error() != "atlas error 210" {
		t.Error(err)
	}
	if _, _, err := asm.Assemble("nop\nfly"); err == nil || err.Error() != "line 2: atlas error 210" {
		t.Error(err)
	}
	if _, _, err := asm.Assemble("\n"); err == nil || err.Error() != "atlas error 237" {
		t.Error(err)
	}
}

// P2104: no error, and errors that are none of this package's.
func TestOtherErrors(t *testing.T) {
	if e, line := asm.Code(nil); e != api.OK || line != 0 {
		t.Error(e, line)
	}
	if _, err := asm.Line("nop", 0); err != nil {
		t.Error(err)
	}
	if _, _, err := asm.Assemble("nop"); err != nil {
		t.Error(err)
	}
	var nobody *wrap // its Unwrap panics, as it is called by way of nil
	for n, err := range []error{errors.New("x"), api.OK, api.ErrSyntax, api.ErrMnemonic, api.Errno(-1), wrap{nil}, wrap{api.ErrSyntax}, fmt.Errorf("line 3: %w", api.ErrLabel), errors.Join(api.ErrSize, errors.New("x")), faint{}, wrap{faint{}}, nobody, liar{}, wrap{liar{}}} {
		if e, line := asm.Code(err); e != -1 || line != 0 {
			t.Errorf("%d: %d at %d", n, int(e), line)
		}
	}
}
