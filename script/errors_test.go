package script_test

import (
	"errors"
	"fmt"
	"strings"
	"testing"

	"atlas/api"
	"atlas/script"
)

// wrap: an error of another package that wraps one.
type wrap struct{ inner error }

func (w wrap) Error() string { return "wrapped" }
func (w wrap) Unwrap() error { return w.inner }

// several: one that wraps several.
type several []error

func (s several) Error() string   { return "several" }
func (s several) Unwrap() []error { return s }

// faint: its Unwrap panics.
type faint struct{}

func (faint) Error() string { return "faint" }
func (faint) Unwrap() error { panic("faint") }

// liar: it says that it is what is asked for, and gives nothing.
type liar struct{}

func (liar) Error() string { return "liar" }
func (liar) As(any) bool   { return true }

// wrongs: an error of each number and of several words, with what Code tells.
func wrongs() map[string]reply {
	return map[string]reply{
		"fly":                                  refused(api.ErrVerb, 0),
		"create 9":                             refused(api.ErrName, 1),
		"load x":                               refused(api.ErrNumber, 1),
		"share a 0 b 0 0 rw":                   refused(api.ErrWord, 6),
		"noise":                                refused(api.ErrForm, 1),
		"boot 1 2 3 4 5 6 7":                   refused(api.ErrForm, 7),
		"spaces " + strings.Repeat("a ", 60):   refused(api.ErrForm, 1),
		"mcr 1 0 0 0 0 users":                  refused(api.ErrWord, 6),
		strings.Repeat(" ", 300):               refused(api.ErrLong, -1),
		"share a 0 b 0 0x10000000000 rwx user": refused(api.ErrNumber, 5),
	}
}

// numbers: those of all errors, and beyond.
func numbers() []api.Errno {
	var l []api.Errno
	for e := api.Errno(-2); e < 400; e++ {
		l = append(l, e)
	}
	return append(l, 1<<31, 1<<32+api.ErrVerb, -api.ErrVerb)
}

// checkError: it wraps its one Errno, and Code tells it, wrapped by others too.
func checkError(t *testing.T, what any, err error, want reply) {
	t.Helper()
	if err == nil || err.Error() == "" {
		t.Fatalf("%q: %v", what, err)
	}
	for _, e := range numbers() {
		if errors.Is(err, e) != (e == want.e) {
			t.Errorf("%q: errors.Is %d is %v", what, int(e), errors.Is(err, e))
		}
	}
	var errno api.Errno
	if !errors.As(err, &errno) || errno != want.e {
		t.Errorf("%q: errors.As gives %d", what, int(errno))
	}
	for i, x := range []error{err, wrap{err}, wrap{wrap{wrap{err}}}, &wrap{err}, fmt.Errorf("line 3: %w", err), errors.Join(errors.New("x"), err), several{nil, wrap{api.ErrArg}, wrap{err}}, several{err, faint{}}} {
		if e, at := script.Code(x); e != want.e || at != want.at {
			t.Errorf("%q, wrapped %d: %d %d", what, i, int(e), at)
		}
	}
	deep := err
	for range 60000 {
		deep = wrap{deep}
	}
	if e, at := script.Code(deep); e != want.e || at != want.at {
		t.Errorf("%q, deep: %d %d", what, int(e), at)
	}
}

// P1502: the errors of Parse and of Print.
func TestErrors(t *testing.T) {
	for line, want := range wrongs() {
		c, err := script.Parse(line)
		if c != (api.Command{}) {
			t.Errorf("%q: %+v", line, c)
		}
		checkError(t, line, err, want)
	}
	for kind, want := range map[int]api.Errno{0: api.ErrVerb, 21: api.ErrVerb, api.CCreate: api.ErrForm, api.CMap: api.ErrForm} {
		s, err := script.Print(api.Command{Kind: kind})
		if s != "" {
			t.Error(kind, s)
		}
		checkError(t, kind, err, refused(want, -1))
	}
}

// An error's text tells its number and its word.
func TestErrorText(t *testing.T) {
	for line, want := range map[string]string{"fly": "atlas error 151 at word 0", "load x": "atlas error 11 at word 1", strings.Repeat(" ", 257): "atlas error 153"} {
		if _, err := script.Parse(line); err == nil || err.Error() != want {
			t.Errorf("%q: %v", line, err)
		}
	}
}

// P1502: of two errors of this package, the one that is wrapped first is told.
func TestTwoErrors(t *testing.T) {
	_, fly := script.Parse("fly")
	_, long := script.Parse(strings.Repeat(" ", 257))
	if e, at := script.Code(several{wrap{fly}, long}); e != api.ErrVerb || at != 0 {
		t.Error(e, at)
	}
	if e, at := script.Code(errors.Join(long, fly)); e != api.ErrLong || at != -1 {
		t.Error(e, at)
	}
}

// P1502: no error, and errors that are none of this package's.
func TestOtherErrors(t *testing.T) {
	if e, at := script.Code(nil); e != api.OK || at != -1 {
		t.Error(e, at)
	}
	for _, line := range []string{"", "# rest", "spaces"} {
		_, err := script.Parse(line)
		if err != nil {
			t.Errorf("%q: %v", line, err)
		}
	}
	if _, err := script.Print(api.Command{Kind: api.CSpaces}); err != nil {
		t.Error(err)
	}
	var nobody *wrap // its Unwrap panics, as it is called by way of nil
	for i, err := range []error{errors.New("x"), api.OK, api.ErrArg, api.ErrVerb, api.ErrForm, api.Errno(-1), wrap{nil}, wrap{api.ErrVerb}, several{}, several{nil}, several{api.ErrForm, errors.New("x")},
		errors.Join(errors.New("x"), api.ErrLong), fmt.Errorf("line 3: %w", api.ErrVerb), faint{}, wrap{faint{}}, nobody, liar{}, wrap{liar{}}} {
		if e, at := script.Code(err); e != -1 || at != -1 {
			t.Errorf("%d: %d %d", i, int(e), at)
		}
	}
}
