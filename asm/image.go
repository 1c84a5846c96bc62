package asm

import (
	"slices"
	"strings"

	"atlas/api"
	"atlas/isa"
)

// sections: how many there are.
const sections = api.SecData + 1

// textBase: where text begins; the others begin at multiples of a page.
const (
	textBase  = 0x8000
	pageBytes = 4096
)

// startLabel: the name of the first instruction, if one has it.
const startLabel = "start"

// sectionRights: what may be done with the bytes of each.
func sectionRights() [sections]api.Rights {
	return [...]api.Rights{
		api.SecText:   {Read: true, Exec: true},
		api.SecRodata: {Read: true},
		api.SecData:   {Read: true, Write: true},
	}
}

// settle: finds the addresses at which the sections begin, and what each name stands for.
func (p *program) settle() {
	at := textBase
	for s, size := range p.places {
		p.bases[s] = at
		at = upTo(at+size, pageBytes)
	}
	p.names = map[string]int64{}
	for name, s := range p.spots {
		p.names[name] = s.number
		if s.section != noSection {
			p.names[name] += int64(p.bases[s.section])
		}
	}
}

// lay: the second pass: the bytes of all pieces.
func (p *program) lay() []api.Listing {
	var listings []api.Listing
	for _, one := range p.pieces {
		p.line = one.line
		at := uint32(p.bases[one.section] + one.place)
		b := one.bytes(at)
		p.data[one.section] = append(p.data[one.section], b...)
		listings = append(listings, api.Listing{Line: one.line, Section: one.section, VA: at, Data: b})
	}
	p.line = noLine
	return listings
}

// encoded: the bytes of a right instruction.
func encoded(i api.Ins) []byte {
	w, _ := isa.Encode(i)
	return lowest(nil, uint64(w), wordBytes)
}

// image: what was laid.
func (p *program) image() api.Image {
	entry := p.entry()
	need(len(p.labels) <= api.MaxSymbols, api.ErrSize)
	image := api.Image{Entry: uint32(entry)}
	for s, b := range p.data {
		if len(b) > 0 {
			image.Segments = append(image.Segments, api.Segment{VA: uint32(p.bases[s]), Size: uint32(len(b)), Rights: sectionRights()[s], Data: b})
		}
	}
	for _, name := range p.labels {
		symbol := api.Symbol{Name: strings.Clone(name), Value: uint32(p.names[name])} // a piece of the text would keep the whole
		image.Symbols = append(image.Symbols, symbol)
	}
	return image
}

// entry: the address of the first instruction.
func (p *program) entry() int {
	at := textBase
	if slices.Contains(p.labels, startLabel) {
		at = int(p.names[startLabel])
	}
	end := textBase + len(p.data[api.SecText])
	need(at%wordBytes == 0 && at+wordBytes <= end, api.ErrStart)
	return at
}
