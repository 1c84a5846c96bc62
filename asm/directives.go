package asm

import (
	"bytes"
	"math/bits"

	"atlas/api"
)

// maxAlign: the greatest multiple that .align goes to.
const maxAlign = 4096

// directive: one that begins with that word.
func (p *program) directive(word string, c *cursor) {
	switch word {
	case ".text":
		p.turnTo(api.SecText, c)
	case ".rodata":
		p.turnTo(api.SecRodata, c)
	case ".data":
		p.turnTo(api.SecData, c)
	case ".word":
		p.values(4, c)
	case ".half":
		p.values(2, c)
	case ".byte":
		p.values(1, c)
	case ".ascii":
		p.text("", c)
	case ".asciz":
		p.text("\x00", c)
	case ".space":
		p.space(c)
	case ".align":
		p.align(c)
	case ".equ":
		p.equ(c)
	default:
		giveUp(api.ErrMnemonic)
	}
}

func (p *program) turnTo(section int, c *cursor) {
	c.end()
	p.section = section
}

// values: the lowest bytes of some, so many of each.
func (p *program) values(size int, c *cursor) {
	all := c.values()
	c.end()
	p.add(size*len(all), func(uint32) []byte { return laid(all, size, p.names) })
}

// laid: the bytes of values. All names are found ahead of what is asked of the numbers.
func laid(all []value, size int, names map[string]int64) []byte {
	var found []int64
	for _, v := range all {
		found = append(found, v.whole(names))
	}
	end := int64(1) << (8 * size)
	var b []byte
	for _, n := range found {
		need(n >= -end/2 && n < end, api.ErrReach)
		b = lowest(b, uint64(n), size)
	}
	return b
}

// lowest: b, and so many bytes of a number behind it, the lowest first.
func lowest(b []byte, n uint64, size int) []byte {
	for range size {
		b = append(b, byte(n))
		n >>= 8
	}
	return b
}

// text: the bytes of a string, and what is behind them.
func (p *program) text(behind string, c *cursor) {
	text := c.must(aString).text + behind
	c.end()
	p.add(len(text), func(uint32) []byte { return []byte(text) })
}

func (p *program) space(c *cursor) {
	size, fill := c.number(), int64(0)
	if c.took(',') {
		fill = c.number()
	}
	c.end()
	need(size <= api.MaxSegment && fill <= 255, api.ErrDirective)
	p.fill(int(size), byte(fill))
}

func (p *program) align(c *cursor) {
	to := c.number()
	c.end()
	need(bits.OnesCount64(uint64(to)) == 1 && to <= maxAlign, api.ErrDirective)
	p.fill(upTo(p.places[p.section], int(to))-p.places[p.section], 0)
}

// upTo: the next multiple of a power of two that is not below the number.
func upTo(n, power int) int { return (n + power - 1) &^ (power - 1) }

// fill: so many bytes that are all the same.
func (p *program) fill(size int, b byte) {
	p.add(size, func(uint32) []byte { return bytes.Repeat([]byte{b}, size) })
}

func (p *program) equ(c *cursor) {
	name := c.name()
	c.must(',')
	number := c.signed()
	c.end()
	p.say(name, spot{noSection, number})
}
