package script

import (
	"errors"
	"strconv"

	"atlas/api"
)

// noWord: where an error is at no word of a line.
const noWord = -1

// notOurs: the number of an error of another package.
const notOurs api.Errno = -1

// wrong: an error of this package: its number, and the word of the line at which it is (P1502).
type wrong struct {
	errno api.Errno
	word  int
}

// Error: its number's text, with the word.
func (w wrong) Error() string {
	if w.word == noWord {
		return w.errno.Error()
	}
	return w.errno.Error() + " at word " + strconv.Itoa(w.word)
}

// Unwrap: its number, which is an error too.
func (w wrong) Unwrap() error { return w.errno }

// Code: the number of an error, and the word at which it is (P1502).
func Code(err error) (api.Errno, int) {
	if err == nil {
		return api.OK, noWord
	}
	w := find(err)
	return w.errno, w.word
}

// find: the error of this package that err is, or wraps; else one that is not ours.
func find(err error) (w wrong) {
	none := wrong{notOurs, noWord}
	defer func() {
		if recover() != nil { // in a method of another package's error: nobody knows what it wraps
			w = none
		}
	}()
	found := none // it stays so, too, if another package's As says yes and sets nothing
	errors.As(err, &found)
	return found
}
