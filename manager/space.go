package manager

import (
	"atlas/api"
	"atlas/desc"
	"atlas/spans"
)

// userDomain: of all windows but those of the size Super, whose descriptors have no room for one.
const userDomain = 1

// space: a user's. A window is kept as its translation, which says all of it.
type space struct {
	root    uint64
	windows *spans.Map[api.Trans] // by pages; no two windows are alike, so that each span is just one of them
}

// domainOf: of a window of that size.
func domainOf(size int) int {
	if size == api.Super {
		return 0
	}
	return userDomain
}

// framesOf: how many frames a window of that size has.
func framesOf(size int) int { return int(desc.Bytes(size) / api.FrameBytes) }

// firstFrame: of a window.
func firstFrame(b api.Trans) int { return int(b.PA / api.FrameBytes) }

// pageOf: the number of an address' page.
func pageOf(va uint32) uint64 { return uint64(va) / api.FrameBytes }

// lastPage: of the pages, one at least, that a length fills from an address on.
func lastPage(va uint32, length uint64) uint64 { return pageOf(va) + length/api.FrameBytes - 1 }

// at: the window in which an address lies.
func (s *space) at(va uint32) (api.Trans, bool) { return s.windows.Get(pageOf(va)) }

// all: the windows, rising.
func (s *space) all() []api.Trans {
	var l []api.Trans
	for _, span := range s.windows.Spans() {
		l = append(l, span.Val)
	}
	return l
}

// meets: lies a page of a range in a window?
func (s *space) meets(va uint32, length uint64) bool {
	span, ok := s.windows.Next(pageOf(va))
	return ok && span.Lo <= lastPage(va, length)
}

// filling: the windows that fill a range, rising: ErrUnmapped, if they leave a page of it out; ErrSplit, if one goes beyond it.
func (s *space) filling(va uint32, length uint64) ([]api.Trans, api.Errno) {
	lo, hi := pageOf(va), lastPage(va, length)
	next := lo
	var l []api.Trans
	for piece := range s.windows.Within(lo, hi) {
		if piece.Lo != next {
			return nil, api.ErrUnmapped
		}
		l = append(l, piece.Val)
		next = piece.Hi + 1
	}
	if next <= hi {
		return nil, api.ErrUnmapped
	}
	first, last := l[0], l[len(l)-1] // no other one can go beyond it
	if first.VA < va || lastPage(last.VA, desc.Bytes(last.Size)) > hi {
		return nil, api.ErrSplit
	}
	return l, api.OK
}

// keep: they are windows; a window that stands at the same pages is one no more.
func (s *space) keep(l []api.Trans) {
	for _, b := range l {
		s.windows.Set(pageOf(b.VA), lastPage(b.VA, desc.Bytes(b.Size)), b)
	}
}

// lose: they are windows no more.
func (s *space) lose(l []api.Trans) {
	for _, b := range l {
		s.windows.Clear(pageOf(b.VA), lastPage(b.VA, desc.Bytes(b.Size)))
	}
}

// addresses: those of windows.
func addresses(l []api.Trans) []uint32 {
	var vas []uint32
	for _, b := range l {
		vas = append(vas, b.VA)
	}
	return vas
}
