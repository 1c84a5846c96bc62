package frames_test

import (
	"fmt"
	"math"
	"math/rand"
	"slices"
	"testing"

	"atlas/api"
	"atlas/frames"
)

// end: the number of frames that there can be.
const end = api.LastFrame + 1

// aligns: all that a run may be asked for.
var aligns = []int{1, 2, 4, 8, 16, 32, 64, 128, 256, 512, 1024, 2048, 4096}

// noAligns: some that it may not.
var noAligns = []int{0, -1, -2, -4096, 3, 5, 6, 7, 9, 12, 24, 1023, 3000, 4095, 4097, 6144, 8192, 1 << 20, 1 << 32, 1 << 62, math.MinInt, math.MaxInt}

func made(t *testing.T, first, count int) *frames.Pool {
	t.Helper()
	p, e := frames.New(first, count)
	if p == nil || e != api.OK {
		t.Fatalf("New(%d, %d) = %v, %d", first, count, p, e)
	}
	return p
}

func slab(t *testing.T, p *frames.Pool) *frames.Slab {
	t.Helper()
	s, e := frames.NewSlab(p)
	if s == nil || e != api.OK {
		t.Fatalf("NewSlab = %v, %d", s, e)
	}
	return s
}

func take(t *testing.T, p *frames.Pool, n, align, want int, err api.Errno) {
	t.Helper()
	if f, e := p.Take(n, align); f != want || e != err {
		t.Errorf("Take(%d, %d) = %d, %d, want %d, %d", n, align, f, e, want, err)
	}
}

func share(t *testing.T, p *frames.Pool, first, n int, err api.Errno) {
	t.Helper()
	if e := p.Share(first, n); e != err {
		t.Errorf("Share(%d, %d) = %d, want %d", first, n, e, err)
	}
}

func drop(t *testing.T, p *frames.Pool, first, n, want int, err api.Errno) {
	t.Helper()
	if k, e := p.Drop(first, n); k != want || e != err {
		t.Errorf("Drop(%d, %d) = %d, %d, want %d, %d", first, n, k, e, want, err)
	}
}

func takeTable(t *testing.T, s *frames.Slab, want int, err api.Errno) {
	t.Helper()
	if n, e := s.Take(); n != want || e != err {
		t.Errorf("a slab's Take = %d, %d, want %d, %d", n, e, want, err)
	}
}

func dropTable(t *testing.T, s *frames.Slab, n int, err api.Errno) {
	t.Helper()
	if e := s.Drop(n); e != err {
		t.Errorf("a slab's Drop(%d) = %d, want %d", n, e, err)
	}
}

// holds: what a slab tells of itself.
func holds(t *testing.T, s *frames.Slab, tables, framesOf []int) {
	t.Helper()
	if l := s.Tables(); !slices.Equal(l, tables) {
		t.Errorf("Tables = %v, want %v", l, tables)
	}
	if l := s.Frames(); !slices.Equal(l, framesOf) {
		t.Errorf("Frames = %v, want %v", l, framesOf)
	}
}

func runs(t *testing.T, p *frames.Pool, want ...api.Run) {
	t.Helper()
	if l := p.Runs(); !slices.Equal(l, want) {
		t.Errorf("Runs = %v, want %v", l, want)
	}
}

// plain is the slow pool that the package is held against.
type plain struct {
	first int
	uses  []int
}

func (q *plain) free() int {
	n := 0
	for _, u := range q.uses {
		if u == 0 {
			n++
		}
	}
	return n
}

// runs: each is begun at a free frame behind one that is not, and goes on as far as it can.
func (q *plain) runs() []api.Run {
	var l []api.Run
	for i := 0; i < len(q.uses); {
		n := 0
		for i+n < len(q.uses) && q.uses[i+n] == 0 {
			n++
		}
		if n > 0 {
			l = append(l, api.Run{First: q.first + i, Count: n})
		}
		i += n + 1
	}
	return l
}

// named: the uses of n frames, or what a call for them answers.
func (q *plain) named(first, n int) ([]int, api.Errno) {
	if n < 1 {
		return nil, api.ErrCount
	}
	for k := range n {
		if i := first + k - q.first; i < 0 || i >= len(q.uses) {
			return nil, api.ErrRange
		}
	}
	l := q.uses[first-q.first:][:n]
	if slices.Contains(l, 0) {
		return nil, api.ErrFree
	}
	return l, api.OK
}

// take: every first frame is tried, from the lowest on.
func (q *plain) take(n, align int) (int, api.Errno) {
	if n < 1 || !slices.Contains(aligns, align) {
		return 0, api.ErrCount
	}
	for i := 0; i+n <= len(q.uses); i++ {
		l := q.uses[i:][:n]
		if (q.first+i)%align == 0 && !slices.ContainsFunc(l, func(u int) bool { return u != 0 }) {
			for k := range l {
				l[k] = 1
			}
			return q.first + i, api.OK
		}
	}
	return 0, api.ErrFrames
}

func (q *plain) share(first, n int) api.Errno {
	l, e := q.named(first, n)
	if e == api.OK && slices.Contains(l, api.MaxUses) {
		e = api.ErrUses
	}
	if e != api.OK {
		return e
	}
	for k := range l {
		l[k]++
	}
	return api.OK
}

func (q *plain) drop(first, n int) (int, api.Errno) {
	l, e := q.named(first, n)
	freed := 0
	for k := range l {
		if l[k]--; l[k] == 0 {
			freed++
		}
	}
	return freed, e
}

// same: all that a pool tells of itself is what the slow one says.
func same(t *testing.T, p *frames.Pool, q *plain) {
	t.Helper()
	if p.All() != (api.Run{First: q.first, Count: len(q.uses)}) || p.Free() != q.free() {
		t.Fatalf("All = %v, Free = %d, want %d from %d on, %d free", p.All(), p.Free(), len(q.uses), q.first, q.free())
	}
	if l := p.Runs(); !slices.Equal(l, q.runs()) {
		t.Fatalf("Runs = %v, want %v", l, q.runs())
	}
	for i, u := range q.uses {
		if n := p.Uses(q.first + i); n != u {
			t.Fatalf("Uses(%d) = %d, want %d", q.first+i, n, u)
		}
	}
	for _, f := range []int{math.MinInt, -1, q.first - 1, q.first + len(q.uses), end, 1 << 32, 1<<62 + q.first, math.MaxInt} {
		if n := p.Uses(f); n != 0 {
			t.Fatalf("Uses(%d) = %d, but it is none of the pool's", f, n)
		}
	}
}

// told: the slow pool that tells what this one does.
func told(p *frames.Pool) *plain {
	q := &plain{first: p.All().First}
	for i := range p.All().Count {
		q.uses = append(q.uses, p.Uses(q.first+i))
	}
	return q
}

// The chapter's examples, one behind the other.
func TestExamples(t *testing.T) {
	p := made(t, 16, 40)
	take(t, p, 1, 1, 16, api.OK)
	take(t, p, 4, 4, 20, api.OK)
	take(t, p, 16, 16, 32, api.OK)
	take(t, p, 16, 16, 0, api.ErrFrames)
	take(t, p, 3, 1, 17, api.OK)
	if p.Free() != 16 {
		t.Error(p.Free())
	}
	runs(t, p, api.Run{First: 24, Count: 8}, api.Run{First: 48, Count: 8})
	share(t, p, 20, 2, api.OK)
	drop(t, p, 20, 4, 2, api.OK)
	drop(t, p, 20, 4, 0, api.ErrFree)
	if p.Uses(20) != 1 {
		t.Error(p.Uses(20))
	}
	share(t, p, 15, 1, api.ErrRange)
	share(t, p, 16, 0, api.ErrCount)
	take(t, p, 1, 3, 0, api.ErrCount)
	drop(t, p, 16, 1<<62, 0, api.ErrRange)
	s := slab(t, p)
	for want := 88; want <= 92; want++ {
		takeTable(t, s, want, api.OK)
	}
	holds(t, s, []int{88, 89, 90, 91, 92}, []int{22, 23})
	dropTable(t, s, 89, api.OK)
	takeTable(t, s, 89, api.OK)
	dropTable(t, s, 92, api.OK)
	holds(t, s, []int{88, 89, 90, 91}, []int{22})
	dropTable(t, s, 92, api.ErrTable)
}

// F4.1: all are free, and the pool tells just what it was given.
func TestNew(t *testing.T) {
	for _, c := range []api.Run{
		{First: 0, Count: 0}, {First: 0, Count: 1}, {First: 0, Count: 1 << 20}, {First: 16, Count: 40}, {First: 7, Count: 1<<20 - 1},
		{First: end, Count: 0}, {First: end - 1, Count: 0}, {First: end - 1, Count: 1}, {First: end - 2, Count: 2}, {First: end - 1<<20, Count: 1 << 20},
	} {
		p := made(t, c.First, c.Count)
		same(t, p, &plain{c.First, make([]int, c.Count)})
	}
}

// F4.1: the count is looked at first.
func TestNewRefuses(t *testing.T) {
	for _, c := range []struct {
		first, count int
		want         api.Errno
	}{
		{0, -1, api.ErrCount}, {0, 1<<20 + 1, api.ErrCount}, {0, math.MinInt, api.ErrCount}, {0, math.MaxInt, api.ErrCount}, {0, 1 << 32, api.ErrCount},
		{-1, -1, api.ErrCount}, {-1, 1<<20 + 1, api.ErrCount}, {end + 1, -1, api.ErrCount}, {math.MaxInt, math.MaxInt, api.ErrCount}, {math.MinInt, math.MinInt, api.ErrCount},
		{-1, 0, api.ErrRange}, {-1, 1, api.ErrRange}, {-1, 1 << 20, api.ErrRange}, {math.MinInt, 0, api.ErrRange}, {math.MinInt, 1 << 20, api.ErrRange},
		{end, 1, api.ErrRange}, {end - 1, 2, api.ErrRange}, {end + 1, 0, api.ErrRange}, {end - 1<<20 + 1, 1 << 20, api.ErrRange},
		{1 << 32, 1, api.ErrRange}, {math.MaxInt, 0, api.ErrRange}, {math.MaxInt, 1, api.ErrRange}, {math.MaxInt, 1 << 20, api.ErrRange}, {math.MaxInt - 1<<20, 1 << 20, api.ErrRange},
	} {
		if p, e := frames.New(c.first, c.count); p != nil || e != c.want {
			t.Errorf("New(%d, %d) = %v, %d, want %d", c.first, c.count, p, e, c.want)
		}
	}
}

// F4.2, P4.4: wrong counts and aligns, ahead of what the pool has.
func TestTakeRefusesCounts(t *testing.T) {
	for _, count := range []int{0, 1, 40} {
		p := made(t, 16, count)
		before := told(p)
		for _, n := range []int{0, -1, -40, math.MinInt, math.MinInt + 1} {
			for _, align := range append(slices.Clone(aligns), noAligns...) {
				take(t, p, n, align, 0, api.ErrCount)
			}
		}
		for _, n := range []int{1, 2, 40, 41, 1 << 32, 1 << 62, math.MaxInt} {
			for _, align := range noAligns {
				take(t, p, n, align, 0, api.ErrCount)
			}
		}
		same(t, p, before)
	}
}

// F4.2: more frames than the pool has, whatever the align.
func TestTakeOfMoreThanThereAre(t *testing.T) {
	for _, c := range []api.Run{{First: 0, Count: 0}, {First: 0, Count: 1}, {First: 16, Count: 40}, {First: end - 5, Count: 5}} {
		p := made(t, c.First, c.Count)
		for _, n := range []int{c.Count + 1, c.Count + 2, 1 << 20, 1<<20 + 1, 1 << 32, 1<<62 - 1, 1 << 62, math.MaxInt - 1, math.MaxInt} {
			for _, align := range aligns {
				take(t, p, n, align, 0, api.ErrFrames)
			}
		}
		same(t, p, &plain{c.First, make([]int, c.Count)})
	}
}

// F4.2, P4.3: with each align the run begins at the first multiple that the pool has, and beyond its first frame.
func TestTakeAtEachAlign(t *testing.T) {
	for _, align := range aligns {
		p := made(t, 4097, 3*4096)
		for _, want := range []int{(4096/align + 1) * align, (4096/align + 2) * align} {
			take(t, p, 1, align, want, api.OK)
			if p.Uses(want) != 1 {
				t.Errorf("align %d: Uses(%d) = %d", align, want, p.Uses(want))
			}
		}
	}
}

// F4.2: whole runs at each align; the last one that fits, and none that is cut by the end.
func TestTakeOfWholeRunsAtEachAlign(t *testing.T) {
	for _, align := range aligns[1:] {
		p := made(t, 1, 3*align)
		take(t, p, align, align, align, api.OK)
		take(t, p, align, align, 2*align, api.OK)
		take(t, p, align, align, 0, api.ErrFrames) // at 3 * align there is one frame alone
		take(t, p, 1, align, 3*align, api.OK)
		take(t, p, 1, align, 0, api.ErrFrames)
	}
}

// F4.2: a pool in which no multiple lies.
func TestTakeWithoutAMultiple(t *testing.T) {
	p := made(t, 4097, 4095)
	take(t, p, 1, 4096, 0, api.ErrFrames)
	take(t, p, 1, 2048, 6144, api.OK)
	take(t, p, 1, 2048, 0, api.ErrFrames)
	p = made(t, end-1, 1)
	take(t, p, 1, 2, 0, api.ErrFrames)
	take(t, p, 1, 1, end-1, api.OK)
	take(t, p, 1, 1, 0, api.ErrFrames)
}

// F4.2: a run goes around what is in use, and begins at a multiple behind it.
func TestTakeGoesAround(t *testing.T) {
	p := made(t, 0, 32)
	take(t, p, 32, 1, 0, api.OK)
	for _, f := range []int{1, 2, 3, 5, 6, 7, 8, 12, 13, 14, 15, 30, 31} {
		drop(t, p, f, 1, 1, api.OK)
	}
	take(t, p, 4, 4, 12, api.OK)
	take(t, p, 4, 1, 5, api.OK)
	take(t, p, 4, 1, 0, api.ErrFrames)
	take(t, p, 2, 2, 2, api.OK)
	take(t, p, 2, 2, 30, api.OK)
	take(t, p, 1, 1, 1, api.OK)
	take(t, p, 1, 1, 0, api.ErrFrames)
}

// P4.2, P4.3, P4.5: a pool of one frame, again and again.
func TestAPoolOfOne(t *testing.T) {
	p := made(t, 9, 1)
	for range 3 {
		take(t, p, 1, 2, 0, api.ErrFrames)
		take(t, p, 1, 1, 9, api.OK)
		take(t, p, 1, 1, 0, api.ErrFrames)
		runs(t, p)
		drop(t, p, 9, 1, 1, api.OK)
		runs(t, p, api.Run{First: 9, Count: 1})
	}
}

// A pool without frames answers all.
func TestAPoolOfNone(t *testing.T) {
	for _, first := range []int{0, 16, end} {
		p := made(t, first, 0)
		take(t, p, 1, 1, 0, api.ErrFrames)
		for _, n := range []int{1, 2, math.MaxInt} {
			for _, f := range []int{first - 1, first, first + 1, math.MinInt, math.MaxInt} {
				share(t, p, f, n, api.ErrRange)
				drop(t, p, f, n, 0, api.ErrRange)
			}
		}
		share(t, p, first, 0, api.ErrCount)
		drop(t, p, first, 0, 0, api.ErrCount)
		takeTable(t, slab(t, p), 0, api.ErrFrames)
		same(t, p, &plain{first: first})
	}
}

// P4.2, P4.3: the greatest pool, taken one by one, at once, and in aligned runs.
func TestTheGreatestPool(t *testing.T) {
	first := end - api.MaxPool
	p := made(t, first, api.MaxPool)
	for i := range api.MaxPool {
		if f, e := p.Take(1, 1); f != first+i || e != api.OK {
			t.Fatalf("Take %d = %d, %d", i, f, e)
		}
	}
	take(t, p, 1, 1, 0, api.ErrFrames)
	drop(t, p, first, api.MaxPool, api.MaxPool, api.OK)
	take(t, p, api.MaxPool+1, 1, 0, api.ErrFrames)
	take(t, p, api.MaxPool, 4096, first, api.OK)
	if p.Free() != 0 || p.Uses(end-1) != 1 {
		t.Error(p.Free(), p.Uses(end-1))
	}
	drop(t, p, end-1, 1, 1, api.OK)
	take(t, p, 1, 1, end-1, api.OK)
	drop(t, p, first, api.MaxPool, api.MaxPool, api.OK)
	for i := range api.MaxPool / 4096 {
		take(t, p, 4096, 4096, first+4096*i, api.OK)
	}
	runs(t, p)
}

// F4.3, F4.4, P4.4: which frames can be named, at both ends and beyond them; no sum wraps round.
func TestShareAndDropRefuseRanges(t *testing.T) {
	for _, c := range []api.Run{{First: 0, Count: 8}, {First: 16, Count: 40}, {First: end - 8, Count: 8}} {
		p := made(t, c.First, c.Count)
		take(t, p, c.Count, 1, c.First, api.OK)
		before := told(p)
		lo, hi := c.First, c.First+c.Count // hi is the first one beyond
		for _, r := range []api.Run{
			{First: lo - 1, Count: 1}, {First: lo - 1, Count: 2}, {First: lo - 1, Count: c.Count + 2}, {First: lo - 2, Count: 1}, {First: hi, Count: 1}, {First: hi + 1, Count: 1},
			{First: hi - 1, Count: 2}, {First: lo, Count: c.Count + 1}, {First: lo + 1, Count: c.Count}, {First: lo, Count: 1 << 20},
			{First: lo, Count: 1 << 32}, {First: lo, Count: 1 << 62}, {First: lo, Count: 1<<62 - 1}, {First: lo, Count: 1<<62 + 1}, {First: hi - 1, Count: 1 << 62},
			{First: lo, Count: math.MaxInt}, {First: lo + 1, Count: math.MaxInt}, {First: hi - 1, Count: math.MaxInt}, {First: hi - 1, Count: math.MaxInt - hi + 1}, {First: hi - 1, Count: math.MaxInt - hi + 2},
			{First: hi, Count: math.MaxInt}, {First: lo, Count: math.MaxInt - 1}, {First: -1, Count: math.MaxInt}, {First: math.MinInt, Count: 1}, {First: math.MinInt, Count: math.MaxInt}, {First: math.MaxInt, Count: 1},
			{First: math.MaxInt, Count: math.MaxInt}, {First: math.MaxInt - 1, Count: 2}, {First: 1 << 62, Count: 1 << 62}, {First: lo + 1<<32, Count: 1},
		} {
			share(t, p, r.First, r.Count, api.ErrRange)
			drop(t, p, r.First, r.Count, 0, api.ErrRange)
		}
		for _, n := range []int{0, -1, -c.Count, -1 << 62, math.MinInt, math.MinInt + 1} {
			for _, first := range []int{lo, lo - 1, hi, -1, math.MinInt, math.MaxInt} {
				share(t, p, first, n, api.ErrCount)
				drop(t, p, first, n, 0, api.ErrCount)
			}
		}
		same(t, p, before)
	}
}

// F4.3, F4.4: at both ends of the pool, and all of it.
func TestShareAndDropAtTheEnds(t *testing.T) {
	for _, first := range []int{0, 16, end - 4} {
		p := made(t, first, 4)
		take(t, p, 4, 1, first, api.OK)
		share(t, p, first, 1, api.OK)
		share(t, p, first+3, 1, api.OK)
		share(t, p, first, 4, api.OK)
		same(t, p, &plain{first, []int{3, 2, 2, 3}})
		drop(t, p, first+3, 1, 0, api.OK)
		drop(t, p, first, 4, 0, api.OK)
		drop(t, p, first, 2, 1, api.OK)
		same(t, p, &plain{first, []int{1, 0, 1, 1}})
		drop(t, p, first, 1, 1, api.OK)
		drop(t, p, first+2, 2, 2, api.OK)
		same(t, p, &plain{first, make([]int, 4)})
	}
}

// F4.3, P4.4: 255 uses and one more, alone and among others.
func TestUsesHaveAnEnd(t *testing.T) {
	p := made(t, 5, 3)
	take(t, p, 3, 1, 5, api.OK)
	for n := 2; n <= api.MaxUses; n++ {
		share(t, p, 6, 1, api.OK)
		if p.Uses(6) != n {
			t.Fatal(p.Uses(6), n)
		}
	}
	before := told(p)
	for _, r := range []api.Run{{First: 6, Count: 1}, {First: 5, Count: 2}, {First: 6, Count: 2}, {First: 5, Count: 3}} {
		share(t, p, r.First, r.Count, api.ErrUses)
	}
	same(t, p, before)
	drop(t, p, 6, 1, 0, api.OK)
	share(t, p, 5, 3, api.OK)
	same(t, p, &plain{5, []int{2, 255, 2}})
	for n := range 255 {
		drop(t, p, 6, 1, n/254, api.OK)
	}
	drop(t, p, 6, 1, 0, api.ErrFree)
	same(t, p, &plain{5, []int{2, 0, 2}})
}

// F4.4: the answer counts the frames that have become free, no others.
func TestDropFreesSome(t *testing.T) {
	p := made(t, 8, 8)
	take(t, p, 6, 1, 8, api.OK)
	share(t, p, 9, 1, api.OK)
	share(t, p, 11, 2, api.OK)
	share(t, p, 12, 1, api.OK)
	drop(t, p, 8, 6, 3, api.OK)
	same(t, p, &plain{8, []int{0, 1, 0, 1, 2, 0, 0, 0}})
	runs(t, p, api.Run{First: 8, Count: 1}, api.Run{First: 10, Count: 1}, api.Run{First: 13, Count: 3})
	drop(t, p, 11, 2, 1, api.OK)
	drop(t, p, 9, 1, 1, api.OK)
	drop(t, p, 12, 1, 1, api.OK)
	runs(t, p, api.Run{First: 8, Count: 8})
}

// The errors' order where several would do: the count, the range, a free frame, too many uses; wherever in the run each stands.
func TestTheOrderOfErrors(t *testing.T) {
	p := made(t, 4, 4)
	take(t, p, 3, 1, 4, api.OK) // 4 to 6; 7 is free
	drop(t, p, 5, 1, 1, api.OK) // and so is 5
	for range api.MaxUses - 1 {
		share(t, p, 4, 1, api.OK)
		share(t, p, 6, 1, api.OK)
	}
	before := told(p)
	for _, c := range []struct {
		first, n int
		want     api.Errno
	}{
		{3, 0, api.ErrCount}, {7, -1, api.ErrCount}, {4, 0, api.ErrCount},
		{4, 5, api.ErrRange}, {3, 2, api.ErrRange}, {7, 2, api.ErrRange}, {6, 3, api.ErrRange}, {3, 6, api.ErrRange},
		{4, 2, api.ErrFree}, {5, 2, api.ErrFree}, {6, 2, api.ErrFree}, {4, 4, api.ErrFree}, {5, 1, api.ErrFree},
	} {
		share(t, p, c.first, c.n, c.want)
		drop(t, p, c.first, c.n, 0, c.want)
	}
	share(t, p, 4, 1, api.ErrUses)
	share(t, p, 6, 1, api.ErrUses)
	same(t, p, before)
}

// F4.4, P4.4: a Drop that meets a free frame drops none of the others, those ahead of it neither.
func TestDropOfAFreeFrameChangesNothing(t *testing.T) {
	p := made(t, 0, 6)
	take(t, p, 6, 1, 0, api.OK)
	drop(t, p, 3, 1, 1, api.OK)
	before := told(p)
	for first := range 6 {
		for n := 1; first+n <= 6; n++ {
			if first <= 3 && 3 < first+n {
				drop(t, p, first, n, 0, api.ErrFree)
				share(t, p, first, n, api.ErrFree)
			}
		}
	}
	same(t, p, before)
}

// P4.3: frames that come back are the next ones to be taken, the lowest first.
func TestWhatComesBackIsTakenFirst(t *testing.T) {
	p := made(t, 100, 50)
	take(t, p, 50, 1, 100, api.OK)
	for _, f := range []int{140, 103, 149, 120, 100} {
		drop(t, p, f, 1, 1, api.OK)
	}
	for _, want := range []int{100, 103, 120, 140, 149} {
		take(t, p, 1, 1, want, api.OK)
	}
	take(t, p, 1, 1, 0, api.ErrFrames)
}

// P4.5: as many Drops as Takes and Shares, and the pool is as it was made.
func TestBackAgain(t *testing.T) {
	r := rand.New(rand.NewSource(5))
	p := made(t, 33, 64)
	var left []api.Run
	for range 200 {
		n, align := 1+r.Intn(6), aligns[r.Intn(4)]
		if f, e := p.Take(n, align); e == api.OK {
			left = append(left, api.Run{First: f, Count: n})
		}
		if l := left[r.Intn(len(left))]; p.Share(l.First, l.Count) == api.OK {
			left = append(left, l)
		}
	}
	r.Shuffle(len(left), func(i, j int) { left[i], left[j] = left[j], left[i] })
	for _, l := range left {
		if _, e := p.Drop(l.First, l.Count); e != api.OK {
			t.Fatal(l, e)
		}
	}
	same(t, p, &plain{33, make([]int, 64)})
	take(t, p, 64, 1, 33, api.OK)
}

// P4.1 to P4.5: any calls, on pools of many sizes, against the slow ones.
func TestAnyCalls(t *testing.T) {
	for seed := range int64(60) {
		r := rand.New(rand.NewSource(seed))
		first, count := r.Intn(40), r.Intn(60)
		if seed%3 == 0 {
			first = end - count
		}
		p, q := made(t, first, count), &plain{first, make([]int, count)}
		for range 600 {
			anyCall(t, r, p, q)
			same(t, p, q)
		}
	}
}

// anyCall: one call of a pool by chance, its answer held against the slow one's.
func anyCall(t *testing.T, r *rand.Rand, p *frames.Pool, q *plain) {
	t.Helper()
	f, n := q.first-1+r.Intn(len(q.uses)+3), r.Intn(5)
	switch r.Intn(5) {
	case 0, 1:
		align := aligns[r.Intn(5)]
		if r.Intn(20) == 0 {
			align = noAligns[r.Intn(len(noAligns))]
		}
		if r.Intn(4) == 0 {
			n *= 4
		}
		want, err := q.take(n, align)
		take(t, p, n, align, want, err)
	case 2:
		share(t, p, f, n, q.share(f, n))
	default:
		want, err := q.drop(f, n)
		drop(t, p, f, n, want, err)
	}
}

// Rule 5: pools that are made apart are apart.
func TestTwoPoolsShareNothing(t *testing.T) {
	a, b := made(t, 0, 8), made(t, 0, 8)
	take(t, a, 8, 1, 0, api.OK)
	share(t, a, 2, 2, api.OK)
	takeTable(t, slab(t, a), 0, api.ErrFrames)
	same(t, b, &plain{0, make([]int, 8)})
	take(t, b, 2, 1, 0, api.OK)
	drop(t, b, 0, 1, 1, api.OK)
	same(t, a, &plain{0, []int{1, 1, 2, 2, 1, 1, 1, 1}})
}

// F4.6.
func TestNewSlab(t *testing.T) {
	if s, e := frames.NewSlab(nil); s != nil || e != api.ErrNil {
		t.Error(s, e)
	}
	p := made(t, 3, 4)
	holds(t, slab(t, p), nil, nil)
	same(t, p, &plain{3, make([]int, 4)})
}

// F4.7: the least table, four a frame, till the pool has no frame left; what is refused changes nothing.
func TestASlabTakesAll(t *testing.T) {
	for _, c := range []api.Run{{First: 0, Count: 1}, {First: 22, Count: 3}, {First: end - 2, Count: 2}} {
		p := made(t, c.First, c.Count)
		s := slab(t, p)
		var tables, taken []int
		for i := range 4 * c.Count {
			want := 4*c.First + i
			takeTable(t, s, want, api.OK)
			tables = append(tables, want)
			if i%4 == 0 {
				taken = append(taken, want/4)
			}
			holds(t, s, tables, taken)
			if p.Free() != c.Count-len(taken) || p.Uses(want/4) != 1 {
				t.Errorf("Free = %d, Uses = %d", p.Free(), p.Uses(want/4))
			}
		}
		takeTable(t, s, 0, api.ErrFrames)
		takeTable(t, s, 0, api.ErrFrames)
		holds(t, s, tables, taken)
	}
}

// F4.7: a slab whose pool has no frame left gives what its own frames have left.
func TestASlabOverAFullPool(t *testing.T) {
	p := made(t, 10, 2)
	take(t, p, 1, 1, 10, api.OK)
	s := slab(t, p)
	for want := 44; want < 48; want++ {
		takeTable(t, s, want, api.OK)
	}
	takeTable(t, s, 0, api.ErrFrames)
	dropTable(t, s, 46, api.OK)
	takeTable(t, s, 46, api.OK)
	takeTable(t, s, 0, api.ErrFrames)
	drop(t, p, 10, 1, 1, api.OK)
	takeTable(t, s, 40, api.OK) // a frame below those that it has
	holds(t, s, []int{40, 44, 45, 46, 47}, []int{10, 11})
	takeTable(t, s, 41, api.OK)
}

// F4.7: the least table that is not in use, though a later frame was the last one that lost one.
func TestASlabTakesTheLeast(t *testing.T) {
	s := slab(t, made(t, 0, 4))
	for want := range 16 {
		takeTable(t, s, want, api.OK)
	}
	for _, n := range []int{7, 13, 2, 12, 9, 0} {
		dropTable(t, s, n, api.OK)
	}
	for _, want := range []int{0, 2, 7, 9, 12, 13} {
		takeTable(t, s, want, api.OK)
	}
	takeTable(t, s, 0, api.ErrFrames)
}

// F4.8, P4.6: the frame comes back with its last table, and not ahead of it, whichever is the last.
func TestAFrameComesBackWithItsLastTable(t *testing.T) {
	for last := range 4 {
		p := made(t, 5, 3)
		s := slab(t, p)
		for range 9 {
			s.Take()
		}
		for i := range 4 {
			if i != last {
				dropTable(t, s, 24+i, api.OK)
				if p.Uses(6) != 1 || p.Free() != 0 {
					t.Error(last, i, p.Uses(6))
				}
			}
		}
		holds(t, s, []int{20, 21, 22, 23, 24 + last, 28}, []int{5, 6, 7})
		dropTable(t, s, 24+last, api.OK)
		holds(t, s, []int{20, 21, 22, 23, 28}, []int{5, 7})
		same(t, p, &plain{5, []int{1, 0, 1}})
		takeTable(t, s, 29, api.OK) // of a frame that it has, ahead of the one that is free
		takeTable(t, s, 30, api.OK)
		takeTable(t, s, 31, api.OK)
		takeTable(t, s, 24, api.OK)
	}
}

// F4.8: a Drop of what is not in use, twice, or beyond the slab's frames.
func TestASlabRefusesTables(t *testing.T) {
	p := made(t, 0, 4)
	s := slab(t, p)
	for _, n := range []int{0, 1, -1} {
		dropTable(t, s, n, api.ErrTable)
	}
	for range 6 {
		s.Take()
	}
	dropTable(t, s, 2, api.OK)
	before := told(p)
	for _, n := range []int{2, 6, 7, 8, 15, 16, -1, -2, -3, -4, -5, -8, 4 * end, 1 << 32, 1<<62 + 1, math.MaxInt, math.MinInt, math.MinInt + 1} {
		dropTable(t, s, n, api.ErrTable)
		dropTable(t, s, n, api.ErrTable)
	}
	holds(t, s, []int{0, 1, 3, 4, 5}, []int{0, 1})
	same(t, p, before)
}

// P4.6: two slabs over one pool have no frame in common, and no table of the other's can be dropped; others take of the pool.
func TestTwoSlabsOverOnePool(t *testing.T) {
	p := made(t, 8, 6)
	a, b := slab(t, p), slab(t, p)
	takeTable(t, a, 32, api.OK)
	takeTable(t, b, 36, api.OK)
	take(t, p, 1, 1, 10, api.OK)
	takeTable(t, a, 33, api.OK)
	takeTable(t, b, 37, api.OK)
	takeTable(t, a, 34, api.OK)
	takeTable(t, a, 35, api.OK)
	takeTable(t, a, 44, api.OK)
	for _, n := range []int{36, 37, 38, 40} {
		dropTable(t, a, n, api.ErrTable)
	}
	for _, n := range []int{32, 35, 44, 40} {
		dropTable(t, b, n, api.ErrTable)
	}
	holds(t, a, []int{32, 33, 34, 35, 44}, []int{8, 11})
	holds(t, b, []int{36, 37}, []int{9})
	dropTable(t, b, 36, api.OK)
	dropTable(t, b, 37, api.OK)
	same(t, p, &plain{8, []int{1, 0, 1, 1, 0, 0}})
	for _, want := range []int{45, 46, 47, 36} { // a frame that was the other's
		takeTable(t, a, want, api.OK)
	}
	takeTable(t, b, 48, api.OK)
	take(t, p, 1, 1, 13, api.OK)
	holds(t, a, []int{32, 33, 34, 35, 36, 44, 45, 46, 47}, []int{8, 9, 11})
	holds(t, b, []int{48}, []int{12})
	takeTable(t, slab(t, p), 0, api.ErrFrames)
}

// To Share a slab's frame, and to Drop it as often, is nobody's harm, though the slab gives it back between.
func TestAFrameOfASlabIsShared(t *testing.T) {
	p := made(t, 2, 2)
	s := slab(t, p)
	takeTable(t, s, 8, api.OK)
	share(t, p, 2, 1, api.OK)
	takeTable(t, s, 9, api.OK)
	drop(t, p, 2, 1, 0, api.OK)
	holds(t, s, []int{8, 9}, []int{2})
	share(t, p, 2, 1, api.OK)
	dropTable(t, s, 9, api.OK)
	dropTable(t, s, 8, api.OK)
	holds(t, s, nil, nil)
	if p.Uses(2) != 1 {
		t.Error(p.Uses(2))
	}
	takeTable(t, s, 12, api.OK) // the frame 2 is in use still
	drop(t, p, 2, 1, 1, api.OK)
	holds(t, s, []int{12}, []int{3})
}

// The greatest slab: each frame of the greatest pool, and back again.
func TestTheGreatestSlab(t *testing.T) {
	p := made(t, 0, api.MaxPool)
	s := slab(t, p)
	for want := range 4 * api.MaxPool {
		if n, e := s.Take(); n != want || e != api.OK {
			t.Fatalf("Take = %d, %d, want %d", n, e, want)
		}
	}
	takeTable(t, s, 0, api.ErrFrames)
	if len(s.Tables()) != 4*api.MaxPool || len(s.Frames()) != api.MaxPool || p.Free() != 0 {
		t.Error(len(s.Tables()), len(s.Frames()), p.Free())
	}
	for n := 4*api.MaxPool - 1; n >= 0; n-- {
		if e := s.Drop(n); e != api.OK {
			t.Fatalf("Drop(%d) = %d", n, e)
		}
	}
	holds(t, s, nil, nil)
	runs(t, p, api.Run{First: 0, Count: api.MaxPool})
}

// slow is the slow slab: its tables in use; its frames are those of them.
type slow struct {
	pool   *plain
	tables []int // rising
}

func (s *slow) frames() []int {
	var l []int
	for _, n := range s.tables {
		l = append(l, n/4)
	}
	return slices.Compact(l)
}

func (s *slow) put(n int) {
	s.tables = append(s.tables, n)
	slices.Sort(s.tables)
}

func (s *slow) take() (int, api.Errno) {
	for _, f := range s.frames() {
		for n := 4 * f; n < 4*f+4; n++ {
			if !slices.Contains(s.tables, n) {
				s.put(n)
				return n, api.OK
			}
		}
	}
	f, e := s.pool.take(1, 1)
	if e != api.OK {
		return 0, e
	}
	s.put(4 * f)
	return 4 * f, api.OK
}

func (s *slow) drop(n int) api.Errno {
	i := slices.Index(s.tables, n)
	if i < 0 {
		return api.ErrTable
	}
	s.tables = slices.Delete(s.tables, i, i+1)
	if !slices.Contains(s.frames(), n/4) {
		s.pool.drop(n/4, 1)
	}
	return api.OK
}

// P4.6 with P4.1 to P4.5: any calls of several slabs over one pool, with others who take, share and drop of it what is theirs.
func TestAnyCallsOfSlabs(t *testing.T) {
	for seed := range int64(60) {
		c := crowd{t: t, r: rand.New(rand.NewSource(seed))}
		first, count := c.r.Intn(9), c.r.Intn(14)
		c.pool, c.plain = made(t, first, count), &plain{first, make([]int, count)}
		for range 1 + c.r.Intn(3) {
			c.slabs, c.slows = append(c.slabs, slab(t, c.pool)), append(c.slows, &slow{pool: c.plain})
		}
		for range 400 {
			c.step()
			c.check()
		}
	}
}

// crowd: slabs over one pool, each beside a slow one, and the frames that others have in use.
type crowd struct {
	t      *testing.T
	r      *rand.Rand
	pool   *frames.Pool
	plain  *plain
	slabs  []*frames.Slab
	slows  []*slow
	others []int
}

func (c *crowd) step() {
	c.t.Helper()
	i := c.r.Intn(len(c.slabs))
	switch c.r.Intn(8) {
	case 0, 1, 2:
		want, err := c.slows[i].take()
		takeTable(c.t, c.slabs[i], want, err)
	case 3, 4, 5:
		n := 4*c.plain.first - 2 + c.r.Intn(4*len(c.plain.uses)+4)
		dropTable(c.t, c.slabs[i], n, c.slows[i].drop(n))
	case 6:
		c.gain()
	case 7:
		c.lose()
	}
}

// gain: somebody takes a frame, or shares one, a slab's too.
func (c *crowd) gain() {
	c.t.Helper()
	f, err := c.plain.take(1, 1)
	if c.r.Intn(2) == 0 {
		take(c.t, c.pool, 1, 1, f, err)
	} else {
		if err == api.OK {
			c.plain.drop(f, 1)
		}
		f = c.plain.first + c.r.Intn(len(c.plain.uses)+1)
		err = c.plain.share(f, 1)
		share(c.t, c.pool, f, 1, err)
	}
	if err == api.OK {
		c.others = append(c.others, f)
	}
}

// lose: somebody drops what he took or shared.
func (c *crowd) lose() {
	c.t.Helper()
	if len(c.others) == 0 {
		return
	}
	i := c.r.Intn(len(c.others))
	f := c.others[i]
	c.others = slices.Delete(c.others, i, i+1)
	want, err := c.plain.drop(f, 1)
	drop(c.t, c.pool, f, 1, want, err)
}

func (c *crowd) check() {
	c.t.Helper()
	same(c.t, c.pool, c.plain)
	owned := map[int]int{}
	for i, s := range c.slabs {
		holds(c.t, s, c.slows[i].tables, c.slows[i].frames())
		for _, f := range s.Frames() {
			owned[f]++
			if owned[f] > 1 || c.pool.Uses(f) < 1 {
				c.t.Fatalf("the frame %d has %d slabs and %d uses", f, owned[f], c.pool.Uses(f))
			}
		}
	}
}

// A slab that is broken: its calls end and don't panic, whatever was dropped, and whoever has it now.
func TestABrokenSlabEnds(t *testing.T) {
	for seed := range int64(60) {
		r := rand.New(rand.NewSource(seed))
		p := made(t, r.Intn(3), 1+r.Intn(6))
		slabs := []*frames.Slab{slab(t, p), slab(t, p)}
		for range 500 {
			s := slabs[r.Intn(2)]
			switch r.Intn(6) {
			case 0, 1:
				s.Take()
			case 2, 3:
				s.Drop(r.Intn(40) - 2)
			case 4:
				p.Drop(r.Intn(10), 1)
			case 5:
				p.Take(1, 1)
			}
			s.Tables()
			s.Frames()
			runs(t, p, told(p).runs()...)
		}
	}
}

// A slab that is broken, step by step: its frame is dropped, is free, and is taken again by the slab itself or by others.
func TestABrokenSlabStepByStep(t *testing.T) {
	for tables := 1; tables <= 5; tables++ {
		for again := range 3 {
			t.Run(fmt.Sprint(tables, again), func(t *testing.T) {
				p := made(t, 0, 2)
				s := slab(t, p)
				for range tables {
					s.Take()
				}
				drop(t, p, 0, 1, 1, api.OK)
				for range again {
					p.Take(1, 1)
				}
				for range 9 {
					s.Take()
				}
				for range 2 {
					for n := range 9 {
						s.Drop(n)
					}
				}
				s.Take()
				s.Tables()
				s.Frames()
			})
		}
	}
}

// spoil writes into all of a list, its spare room too.
func spoil[E any](l []E, v E) {
	l = l[:cap(l)]
	for i := range l {
		l[i] = v
	}
}

// Rule 4: what Runs, Tables and Frames hand out is new memory.
func TestListsAreNewMemory(t *testing.T) {
	p := made(t, 6, 9)
	s := slab(t, p)
	for range 9 {
		s.Take()
	}
	take(t, p, 1, 2, 10, api.OK)
	before := told(p)
	tables, taken, free := s.Tables(), s.Frames(), p.Runs()
	spoil(s.Tables(), 77)
	spoil(s.Frames(), 77)
	spoil(p.Runs(), api.Run{First: 77, Count: 77})
	if !slices.Equal(tables, []int{24, 25, 26, 27, 28, 29, 30, 31, 32}) || !slices.Equal(taken, []int{6, 7, 8}) {
		t.Error("two answers share memory:", tables, taken)
	}
	if !slices.Equal(free, []api.Run{{First: 9, Count: 1}, {First: 11, Count: 4}}) {
		t.Error("two answers share memory:", free)
	}
	holds(t, s, tables, taken)
	same(t, p, before)
	spoil(tables, 77)
	spoil(taken, 77)
	spoil(free, api.Run{First: 77, Count: 77})
	takeTable(t, s, 33, api.OK)
	takeTable(t, s, 34, api.OK)
	takeTable(t, s, 35, api.OK)
	takeTable(t, s, 36, api.OK)
	take(t, p, 1, 1, 11, api.OK)
}

// Rule 4: what was handed out does not change with the pool and the slab.
func TestWhatWasToldStays(t *testing.T) {
	p := made(t, 0, 4)
	s := slab(t, p)
	for range 5 {
		s.Take()
	}
	tables, taken, free := s.Tables(), s.Frames(), p.Runs()
	for n := range 5 {
		s.Drop(n)
	}
	p.Take(3, 1)
	if !slices.Equal(tables, []int{0, 1, 2, 3, 4}) || !slices.Equal(taken, []int{0, 1}) || !slices.Equal(free, []api.Run{{First: 2, Count: 2}}) {
		t.Error("what was handed out has changed:", tables, taken, free)
	}
}
