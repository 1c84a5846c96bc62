package script

import (
	"strconv"

	"atlas/api"
	"atlas/words"
)

// The numbers of a line lie below these.
const (
	crEnd     = 16
	opEnd     = 8
	countEnd  = 1 << 31
	word32End = 1 << 32
)

// noName: the word for no space.
const noName = "-"

// The words for numbers, by the numbers; the empty text, which is no word, stands where there is none.
var (
	actWords = [4]string{api.NNone: "none", api.NEvict: "evict", api.NFill: "fill"}
	tlbWords = [4]string{api.TlbI: "i", api.TlbD: "d", api.TlbMain: "main"}
)

// place: a word of a line, by its kind, with the field of a command that it gives. What show tells of a value that no word gives, read does not give back.
type place interface {
	read(word string) api.Errno
	show() string
}

// name: of a space.
type name struct{ field *string }

func (n name) read(word string) api.Errno {
	if !words.Name(word) {
		return api.ErrName
	}
	*n.field = word
	return api.OK
}

func (n name) show() string { return *n.field }

// nameOrNone: a name, or the word for none, which leaves the field empty.
type nameOrNone struct{ field *string }

func (n nameOrNone) read(word string) api.Errno {
	if word == noName { // the field is empty as it is
		return api.OK
	}
	return name{n.field}.read(word)
}

func (n nameOrNone) show() string {
	if *n.field == "" {
		return noName
	}
	return *n.field
}

// number: told as a decimal.
type number struct {
	field *int
	end   uint64
}

func (n number) read(word string) api.Errno {
	v, errno := below(n.end, word)
	if errno == api.OK {
		*n.field = int(v)
	}
	return errno
}

func (n number) show() string { return strconv.Itoa(*n.field) }

// below: the number that the word writes, if it lies below that end.
func below(end uint64, word string) (uint64, api.Errno) {
	v, errno := words.Number(word)
	if errno != api.OK || v >= end {
		return 0, api.ErrNumber
	}
	return v, api.OK
}

// word32: an address or a value, told by its hexadecimal digits.
type word32 struct{ field *uint32 }

func (w word32) read(word string) api.Errno {
	v, errno := below(word32End, word)
	if errno == api.OK {
		*w.field = uint32(v)
	}
	return errno
}

func (w word32) show() string { return words.Hex(uint64(*w.field)) }

// word40: a length or a physical address: any number that a word writes.
type word40 struct{ field *uint64 }

func (w word40) read(word string) api.Errno {
	v, errno := words.Number(word)
	if errno == api.OK {
		*w.field = v
	}
	return errno
}

func (w word40) show() string { return words.Hex(*w.field) }

// size: of a block.
type size struct{ field *int }

func (s size) read(word string) api.Errno {
	v, errno := words.Size(word)
	if errno == api.OK {
		*s.field = v
	}
	return errno
}

func (s size) show() string { return words.SizeText(*s.field) }

// rights: of a window.
type rights struct{ field *api.Rights }

func (r rights) read(word string) api.Errno {
	v, errno := words.Rights(word)
	if errno == api.OK {
		*r.field = v
	}
	return errno
}

func (r rights) show() string { return words.RightsText(*r.field) }

// choice: one of a few words, each for a number.
type choice struct {
	field *int
	words [4]string
}

func (c choice) read(word string) api.Errno {
	for v, w := range c.words {
		if w == word {
			*c.field = v
			return api.OK
		}
	}
	return api.ErrWord
}

func (c choice) show() string {
	if *c.field < 0 || *c.field >= len(c.words) {
		return ""
	}
	return c.words[*c.field]
}

// how: as what an address is looked up.
type how struct{ fetch *bool }

func (h how) read(word string) api.Errno {
	if word != "fetch" && word != "load" {
		return api.ErrWord
	}
	*h.fetch = word == "fetch"
	return api.OK
}

func (h how) show() string {
	if *h.fetch {
		return "fetch"
	}
	return "load"
}
