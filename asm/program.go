package asm

import (
	"strings"

	"atlas/api"
)

// noSection: of a name that .equ has said.
const noSection = -1

// spot: what a name stands for: a place in a section, or a number.
type spot struct {
	section int
	number  int64
}

// piece: what a line lays at a place of a section; its bytes are told once the names are known.
type piece struct {
	line, section, place int
	bytes                func(at uint32) []byte
}

// program: a text while it is read, and what of it was laid.
type program struct {
	mnemonics []mnemonic
	line      int // at which an error is
	section   int
	places    [sections]int
	spots     map[string]spot
	labels    []string // in the order in which they stand
	pieces    []piece
	bases     [sections]int    // known behind the first pass
	names     map[string]int64 // likewise
	data      [sections][]byte
}

func newProgram() *program {
	return &program{mnemonics: mnemonics(), line: noLine, section: api.SecText, spots: map[string]spot{}}
}

// read: the first pass.
func (p *program) read(text string) {
	for more := true; more; {
		var line string
		line, text, more = strings.Cut(text, "\n")
		p.line++
		p.readLine(cut(line))
	}
}

// readLine: labels, and what is behind them.
func (p *program) readLine(tokens []token) {
	for len(tokens) >= 2 && tokens[0].kind == aWord && tokens[1].kind == ':' {
		p.label(tokens[0].text)
		tokens = tokens[2:]
	}
	if len(tokens) == 0 {
		return
	}
	need(tokens[0].kind == aWord, api.ErrSyntax)
	if m, ok := find(p.mnemonics, tokens[0]); ok {
		p.instruction(m, tokens[1:])
		return
	}
	p.directive(tokens[0].text, &cursor{tokens[1:], api.ErrDirective})
}

// label: the name stands for the place at which the section is.
func (p *program) label(name string) {
	need(isName(name), api.ErrSyntax)
	p.say(name, spot{p.section, int64(p.places[p.section])})
	p.labels = append(p.labels, name)
}

// say: the name stands for that from now on.
func (p *program) say(name string, s spot) {
	_, stands := p.spots[name]
	need(!stands, api.ErrTwice)
	p.spots[name] = s
}

func (p *program) instruction(m mnemonic, operands []token) {
	d := m.draft(operands)
	need(p.places[p.section]%wordBytes == 0, api.ErrReach)
	p.add(wordBytes, func(at uint32) []byte { return encoded(d.settle(at, p.names)) })
}

// add: so many bytes are laid, which are told later.
func (p *program) add(size int, bytes func(uint32) []byte) {
	place := p.places[p.section]
	need(place+size <= api.MaxSegment, api.ErrSize)
	p.places[p.section] += size
	if size > 0 {
		p.pieces = append(p.pieces, piece{p.line, p.section, place, bytes})
	}
}
