package asm

import (
	"atlas/api"
	"atlas/words"
)

// cursor: the tokens that are still to be read, and what to give up with where they have another form.
type cursor struct {
	rest  []token
	errno api.Errno
}

// value: what is written for a number: a name or none, and what is added to it. Minus: its first token is - .
type value struct {
	name  string
	add   int64
	minus bool
}

// whole: its number, by what the names stand for.
func (v value) whole(names map[string]int64) int64 {
	if v.name == "" {
		return v.add
	}
	n, ok := names[v.name]
	need(ok, api.ErrLabel)
	return n + v.add
}

// next: the kind of the next token.
func (c *cursor) next() byte {
	if len(c.rest) == 0 {
		return none
	}
	return c.rest[0].kind
}

// must: the next token, which is of that kind.
func (c *cursor) must(kind byte) token {
	need(c.next() == kind, c.errno)
	t := c.rest[0]
	c.rest = c.rest[1:]
	return t
}

// took: was the next token of that kind? Then it is behind.
func (c *cursor) took(kind byte) bool {
	if c.next() != kind {
		return false
	}
	c.rest = c.rest[1:]
	return true
}

// end: nothing may be left.
func (c *cursor) end() { need(c.next() == none, c.errno) }

// number: a number or a character.
func (c *cursor) number() int64 { return c.must(aNumber).number }

// signed: one with a - ahead or not.
func (c *cursor) signed() int64 {
	if c.took('-') {
		return -c.number()
	}
	return c.number()
}

// name: a word that is a name and no register.
func (c *cursor) name() string {
	text := c.must(aWord).text
	need(isName(text), c.errno)
	return text
}

func isName(text string) bool {
	_, register := registerOf(text)
	return words.Name(text) && !register
}

// value: a signed number; or a name, with + or - and a number behind it or not.
func (c *cursor) value() value {
	if c.next() != aWord {
		minus := c.next() == '-'
		return value{add: c.signed(), minus: minus}
	}
	v := value{name: c.name()}
	if c.took('+') {
		v.add = c.number()
	} else if c.next() == '-' {
		v.add = c.signed()
	}
	return v
}

// values: one, or several with a , between.
func (c *cursor) values() []value {
	all := []value{c.value()}
	for c.took(',') {
		all = append(all, c.value())
	}
	return all
}

// fixed: that very word.
func (c *cursor) fixed(text string) { need(c.must(aWord).text == text, c.errno) }

// register: its number.
func (c *cursor) register() int {
	n, ok := registerOf(c.must(aWord).text)
	need(ok, c.errno)
	return n
}

// registers: one for each field, with a , between each two.
func (c *cursor) registers(fields ...*int) {
	last := len(fields) - 1
	c.leading(fields[:last]...)
	*fields[last] = c.register()
}

// leading: one for each field, with a , behind each.
func (c *cursor) leading(fields ...*int) {
	for _, field := range fields {
		*field = c.register()
		c.must(',')
	}
}

// list: registers, or runs of them that do not fall, each a bit, none twice.
func (c *cursor) list() uint16 {
	c.must('{')
	list := c.run()
	for c.took(',') {
		more := c.run()
		need(list&more == 0, c.errno)
		list |= more
	}
	c.must('}')
	return list
}

// run: a register, or those from one to another.
func (c *cursor) run() uint16 {
	first := c.register()
	last := first
	if c.took('-') {
		last = c.register()
	}
	need(first <= last, c.errno)
	return uint16(1<<(last+1) - 1<<first)
}
