package board

import (
	"slices"
	"strconv"
	"strings"

	"atlas/api"
	"atlas/machine"
	"atlas/manager"
	"atlas/rights"
	"atlas/words"
)

// done: the reply that has nothing more to tell, and the first word of one that has.
const done = "ok"

// currentMark: stands behind the current space's name.
const currentMark = "*"

// answer: the reply to a command that has a place in the board's state, or its error.
func (b *Board) answer(c api.Command) (string, api.Errno) {
	switch c.Kind {
	case api.CBoot:
		return done, b.boot(c.Config)
	case api.CBare:
		return done, b.bare(c.Config)
	case api.CNoise:
		return done, b.machine.Noise([]api.Noise{c.Noise})
	case api.CLoad, api.CStore, api.CFetch:
		return b.access(c)
	case api.CPoke:
		return done, b.machine.Poke(c.PA, c.Value)
	case api.CPeek:
		return value(b.machine.Word(c.PA))
	case api.CMcr:
		return done, b.machine.Mcr(c.Tuple, c.Value, !c.Priv)
	case api.CMrc:
		return value(b.machine.Mrc(c.Tuple, !c.Priv))
	case api.CDirty:
		return number(len(b.machine.Dirty())), api.OK
	case api.CCreate:
		return b.create(c.Name)
	case api.CSpaces:
		return b.spaces(), api.OK
	}
	return b.inSpaces(c)
}

// tell: the reply that tells these words.
func tell(said ...string) string { return done + " " + strings.Join(said, " ") }

// number: the reply that tells a number.
func number(n int) string { return tell(strconv.Itoa(n)) }

// value: the reply that tells a word of the memory or of a register, or the error with which it comes.
func value(v uint32, errno api.Errno) (string, api.Errno) {
	return tell(words.Hex(uint64(v))), errno
}

// boot: the board is managed, unless it is refused.
func (b *Board) boot(c api.Config) api.Errno {
	m, errno := manager.Boot(c)
	if errno == api.OK {
		b.manager, b.machine = m, m.Machine()
	}
	return errno
}

// bare: the board is so, unless it is refused.
func (b *Board) bare(c api.Config) api.Errno {
	m, errno := machine.New(c)
	if errno == api.OK {
		b.machine = m
	}
	return errno
}

// access: the reply to a load, a store or a fetch.
func (b *Board) access(c api.Command) (string, api.Errno) {
	a, errno := b.do(c)
	switch {
	case errno != api.OK:
		return "", errno
	case a.Fault.Kind != api.FNone:
		return "fault " + rights.Text(a.Fault) + " at " + words.Hex(uint64(c.VA)), api.OK
	case c.Kind == api.CStore:
		return done, api.OK
	}
	return value(a.Value, api.OK)
}

// do: the access itself. A managed board has none that is privileged: what one stored would break the manager.
func (b *Board) do(c api.Command) (api.Answer, api.Errno) {
	kind := accessKind(c.Kind)
	switch {
	case b.state() == bare:
		return b.machine.Do(api.Access{Kind: kind, VA: c.VA, Bytes: c.Bytes, Value: c.Value, Priv: c.Priv})
	case c.Priv:
		return api.Answer{}, api.ErrMode
	}
	return b.manager.User(kind, c.VA, c.Bytes, c.Value)
}

// accessKind: of the access that such a command asks for.
func accessKind(kind int) int {
	switch kind {
	case api.CFetch:
		return api.Fetch
	case api.CStore:
		return api.Store
	}
	return api.Load
}

// create: the reply to it; the new space has that name.
func (b *Board) create(name string) (string, api.Errno) {
	if _, live := b.find(name); live {
		return "", api.ErrTaken
	}
	id, errno := b.manager.Create()
	if errno != api.OK {
		return "", errno
	}
	b.names[id] = strings.Clone(name) // the name is a piece of the line, which is not kept
	return number(id), api.OK
}

// find: the number of the live space with that name; of the empty name 0, which is no space's.
func (b *Board) find(name string) (int, bool) {
	id := slices.Index(b.names[:], name)
	return id, id >= 0
}

// inSpaces: the reply to a command that names one space or two.
func (b *Board) inSpaces(c api.Command) (string, api.Errno) {
	id, live := b.find(c.Name)
	other, otherLive := b.find(c.Other) // of the command that has no other one it is empty, and found
	if !live || !otherLive {
		return "", api.ErrNoSpace
	}
	switch c.Kind {
	case api.CDestroy:
		return done, b.destroy(id)
	case api.CSwitch:
		return done, b.manager.Switch(id)
	case api.CMap:
		return done, b.manager.Map(id, c.VA, c.Size, c.Count, c.Rights)
	case api.CUnmap:
		return done, b.manager.Unmap(id, c.VA, c.Len)
	case api.CProtect:
		return done, b.manager.Protect(id, c.VA, c.Len, c.Rights)
	case api.CShare:
		return done, b.manager.Share(id, c.VA, other, c.From, c.Len, c.Rights)
	}
	return window(b.manager.Query(id, c.VA))
}

// destroy: the space goes, and its name is free again.
func (b *Board) destroy(id int) api.Errno {
	b.names[id] = ""
	return b.manager.Destroy(id)
}

// window: the reply that tells one, or the error with which it comes.
func window(w api.Window, errno api.Errno) (string, api.Errno) {
	return tell(words.Hex(uint64(w.VA)), words.SizeText(w.Size), words.RightsText(w.Rights), strconv.Itoa(w.Uses)), errno
}

// spaces: the reply that tells the live ones.
func (b *Board) spaces() string {
	reply := done
	for _, id := range b.manager.Spaces() {
		reply += " " + b.names[id]
		if id == b.manager.Current() {
			reply += currentMark
		}
	}
	return reply
}
