package asm

import (
	"errors"
	"strconv"

	"atlas/api"
)

// noLine: where an error is at no line.
const noLine = 0

// notOurs: the number of an error of another package.
const notOurs api.Errno = -1

// wrong: an error of this package: its number, and the line at which it is (P2104).
type wrong struct {
	errno api.Errno
	line  int
}

// Error: its number's text, with the line.
func (w wrong) Error() string {
	if w.line == noLine {
		return w.errno.Error()
	}
	return "line " + strconv.Itoa(w.line) + ": " + w.errno.Error()
}

// Unwrap: its number, which is an error too.
func (w wrong) Unwrap() error { return w.errno }

// giveUp: ends the work on a line, however deep in it, by panic. Which line that is, is known to who catches it.
func giveUp(errno api.Errno) { panic(wrong{errno, noLine}) }

// need: gives up, unless it is so.
func need(so bool, errno api.Errno) {
	if !so {
		giveUp(errno)
	}
}

// caught: what was given up with, at its line.
func caught(told any, line int) error {
	w := told.(wrong)
	w.line = line
	return w
}

// Code: the number of an error of this package, and the line at which it is, from 1 on (0: at none) (P2104).
func Code(err error) (errno api.Errno, line int) {
	if err == nil {
		return api.OK, noLine
	}
	defer func() {
		if recover() != nil { // in a method of another package's error: nobody knows what it wraps
			errno, line = notOurs, noLine
		}
	}()
	w := wrong{notOurs, noLine}
	errors.As(err, &w)
	return w.errno, w.line
}
