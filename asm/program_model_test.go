package asm_test

import (
	"fmt"
	"math/bits"
	"regexp"
	"slices"
	"strconv"
	"strings"

	"atlas/api"
	"atlas/isa"
)

// laid: what a line lays: its bytes are found in the second pass.
type laid struct {
	line, section int
	place, size   int64
	bytes         func(at uint32, names map[string]int64) ([]byte, api.Errno)
}

// model: a text while it is assembled, in the chapter's words.
type model struct {
	section int
	places  [3]int64
	labels  []string
	stands  map[string][2]int64 // by name: the section, or -1, and the number
	all     []laid
}

// assembled: what Assemble answers, with the error's number and its line.
func assembled(text string) (api.Image, []api.Listing, api.Errno, int) {
	if len(text) > 1048576 {
		return api.Image{}, nil, api.ErrSize, 0
	}
	m := &model{stands: map[string][2]int64{}}
	for n, line := range strings.Split(text, "\n") {
		if e := m.first(n+1, line); e != api.OK {
			return api.Image{}, nil, e, n + 1
		}
	}
	return m.second()
}

// first: the first pass, over a line.
func (m *model) first(n int, line string) api.Errno {
	p, ok := plain(line)
	if !ok {
		return api.ErrSyntax
	}
	for found := aLabel.FindStringSubmatch(p); found != nil; found = aLabel.FindStringSubmatch(p) {
		if found[1][0] != '$' {
			return api.ErrSyntax
		}
		name := found[1][1:]
		if _, stands := m.stands[name]; stands {
			return api.ErrTwice
		}
		m.stands[name] = [2]int64{int64(m.section), m.places[m.section]}
		m.labels = append(m.labels, name)
		p = p[len(found[0]):]
	}
	if p == "" {
		return api.OK
	}
	word, rest, _ := strings.Cut(p, " ")
	if !strings.Contains("%$?", word[:1]) {
		return api.ErrSyntax
	}
	if all := mnemonics[word[1:]]; word[0] == '$' && len(all) > 0 {
		return m.instruction(n, all[0], rest)
	}
	return m.directive(n, word, rest)
}

func (m *model) instruction(n int, i said, rest string) api.Errno {
	if !formed(i, rest) {
		return api.ErrOperand
	}
	if m.places[m.section]%4 != 0 {
		return api.ErrReach
	}
	return m.lay(n, 4, func(at uint32, names map[string]int64) ([]byte, api.Errno) {
		ins, e := settled(i, rest, at, names)
		w, _ := isa.Encode(ins)
		return little(int64(w), 4), e
	})
}

func (m *model) lay(n int, size int64, bytes func(uint32, map[string]int64) ([]byte, api.Errno)) api.Errno {
	place := m.places[m.section]
	if place+size > 16777216 {
		return api.ErrSize
	}
	m.all = append(m.all, laid{n, m.section, place, size, bytes})
	m.places[m.section] += size
	return api.OK
}

func (m *model) constant(n int, b []byte) api.Errno {
	return m.lay(n, int64(len(b)), func(uint32, map[string]int64) ([]byte, api.Errno) { return slices.Clone(b), api.OK })
}

// little: the lowest bytes of a number.
func little(v int64, size int) []byte {
	var b []byte
	for k := range size {
		b = append(b, byte(v>>(8*k)))
	}
	return b
}

var (
	aSpace = regexp.MustCompile(`^=(\d+)(?: , =(\d+))?$`)
	anEqu  = regexp.MustCompile(`^\$(\S+) , (- )?=(\d+)$`)
)

var sizes = map[string]int{"?.word": 4, "?.half": 2, "?.byte": 1}

func (m *model) directive(n int, word, rest string) api.Errno {
	switch word {
	case "?.text", "?.rodata", "?.data":
		if rest != "" {
			return api.ErrDirective
		}
		m.section = map[string]int{"?.text": 0, "?.rodata": 1, "?.data": 2}[word]
		return api.OK
	case "?.word", "?.half", "?.byte":
		return m.values(n, sizes[word], rest)
	case "?.ascii", "?.asciz":
		hex, ok := strings.CutPrefix(rest, `"`)
		b := []byte{}
		if _, err := fmt.Sscanf(hex, "%x", &b); !ok || strings.Contains(hex, " ") || err != nil && hex != "" {
			return api.ErrDirective
		}
		return m.constant(n, append(b, make([]byte, count(word == "?.asciz"))...))
	case "?.space":
		found := aSpace.FindStringSubmatch(rest)
		if found == nil {
			return api.ErrDirective
		}
		size, _ := strconv.ParseInt(found[1], 10, 64)
		fill, _ := strconv.ParseInt("0"+found[2], 10, 64)
		if size > 16777216 || fill > 255 {
			return api.ErrDirective
		}
		return m.constant(n, slices.Repeat([]byte{byte(fill)}, int(size)))
	case "?.align":
		to, err := strconv.ParseUint(strings.TrimPrefix(rest, "="), 10, 64)
		if err != nil || rest[0] != '=' || to > 4096 || bits.OnesCount64(to) != 1 {
			return api.ErrDirective
		}
		place, b := m.places[m.section], []byte{}
		for (place+int64(len(b)))%int64(to) != 0 {
			b = append(b, 0)
		}
		return m.constant(n, b)
	case "?.equ":
		found := anEqu.FindStringSubmatch(rest)
		if found == nil {
			return api.ErrDirective
		}
		if _, stands := m.stands[found[1]]; stands {
			return api.ErrTwice
		}
		v, _ := strconv.ParseInt(strings.Trim(found[2], " ")+found[3], 10, 64)
		m.stands[found[1]] = [2]int64{-1, v}
		return api.OK
	}
	return api.ErrMnemonic
}

func (m *model) values(n, size int, rest string) api.Errno {
	if !someValues.MatchString(rest) {
		return api.ErrDirective
	}
	all := strings.Split(rest, " , ")
	lo, hi := -int64(1)<<(8*size-1), int64(1)<<(8*size)-1
	return m.lay(n, int64(len(all)*size), func(_ uint32, names map[string]int64) ([]byte, api.Errno) {
		var b []byte
		e := api.OK
		for _, v := range all {
			n, ok := valueOf(v, names)
			if !ok {
				return nil, api.ErrLabel
			}
			if n < lo || n > hi {
				e = api.ErrReach
			}
			b = append(b, little(n, size)...)
		}
		return b, e
	})
}

// second: the second pass, and what is asked of the whole.
func (m *model) second() (api.Image, []api.Listing, api.Errno, int) {
	base := [3]int64{0x8000, 0x8000, 0x8000}
	end := int64(0x8000)
	for s := range 3 {
		base[s] = (end + 4095) / 4096 * 4096
		if m.places[s] > 0 {
			end = base[s] + m.places[s]
		}
	}
	names := map[string]int64{}
	for name, where := range m.stands {
		if names[name] = where[1]; where[0] >= 0 {
			names[name] += base[where[0]]
		}
	}
	data, list := [3][]byte{}, []api.Listing{}
	for _, l := range m.all {
		at := uint32(base[l.section] + l.place)
		b, e := l.bytes(at, names)
		if e != api.OK {
			return api.Image{}, nil, e, l.line
		}
		data[l.section] = append(data[l.section], b...)
		if len(b) > 0 {
			list = append(list, api.Listing{Line: l.line, Section: l.section, VA: at, Data: b})
		}
	}
	image := api.Image{Entry: 0x8000}
	for _, name := range m.labels {
		image.Symbols = append(image.Symbols, api.Symbol{Name: name, Value: uint32(names[name])})
		if name == "start" {
			image.Entry = uint32(names[name])
		}
	}
	if image.Entry%4 != 0 || int64(image.Entry)+3 >= base[0]+int64(len(data[0])) {
		return api.Image{}, nil, api.ErrStart, 0
	}
	if len(m.labels) > 1024 {
		return api.Image{}, nil, api.ErrSize, 0
	}
	for s, b := range data {
		if len(b) > 0 {
			rights := []api.Rights{{Read: true, Exec: true}, {Read: true}, {Read: true, Write: true}}[s]
			image.Segments = append(image.Segments, api.Segment{VA: uint32(base[s]), Size: uint32(len(b)), Rights: rights, Data: b})
		}
	}
	return image, list, api.OK, 0
}
