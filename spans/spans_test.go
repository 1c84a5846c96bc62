package spans_test

import (
	"iter"
	"math"
	"math/big"
	"math/rand"
	"slices"
	"testing"

	"atlas/api"
	"atlas/spans"
)

const last = math.MaxUint64

// step: one Set or Clear that was asked of a map.
type step[V comparable] struct {
	lo, hi  uint64
	val     V
	cleared bool
}

// history is the slow map that the package is held against: what was asked, in order, and nothing reckoned ahead.
type history[V comparable] []step[V]

// do asks a map for a step.
func do[V comparable](t *testing.T, m *spans.Map[V], s step[V]) {
	t.Helper()
	e := api.OK
	if s.cleared {
		e = m.Clear(s.lo, s.hi)
	} else {
		e = m.Set(s.lo, s.hi, s.val)
	}
	if want := refusal(s.lo, s.hi); e != want {
		t.Fatalf("%+v = %d, want %d", s, e, want)
	}
}

func refusal(lo, hi uint64) api.Errno {
	if lo > hi {
		return api.ErrSpan
	}
	return api.OK
}

// get: what the last step that touched the key says (P2.2).
func (h history[V]) get(k uint64) (V, bool) {
	for _, s := range slices.Backward(h) {
		if s.lo <= k && k <= s.hi {
			return s.val, !s.cleared
		}
	}
	var none V
	return none, false
}

// edges: the keys at which something may begin, rising.
func (h history[V]) edges() []uint64 {
	keys := []uint64{0}
	for _, s := range h {
		if s.lo > s.hi {
			continue
		}
		keys = append(keys, s.lo)
		if s.hi < last {
			keys = append(keys, s.hi+1)
		}
	}
	slices.Sort(keys)
	return slices.Compact(keys)
}

// near: keys round the edges, rising.
func (h history[V]) near() []uint64 {
	keys := []uint64{last}
	for _, k := range h.edges() {
		keys = append(keys, k)
		if k > 0 {
			keys = append(keys, k-1)
		}
	}
	slices.Sort(keys)
	return slices.Compact(keys)
}

// spans: the greatest runs of one value.
func (h history[V]) spans() []spans.Span[V] {
	var told []spans.Span[V]
	edges := h.edges()
	for i, lo := range edges {
		hi := uint64(last)
		if i+1 < len(edges) {
			hi = edges[i+1] - 1
		}
		v, ok := h.get(lo)
		if !ok {
			continue
		}
		if n := len(told); n > 0 && told[n-1].Hi == lo-1 && told[n-1].Val == v {
			told[n-1].Hi = hi
			continue
		}
		told = append(told, spans.Span[V]{Lo: lo, Hi: hi, Val: v})
	}
	return told
}

// cut: what of the list lies from lo to hi.
func cut[V comparable](list []spans.Span[V], lo, hi uint64) []spans.Span[V] {
	var told []spans.Span[V]
	for _, s := range list {
		s.Lo, s.Hi = max(s.Lo, lo), min(s.Hi, hi)
		if s.Lo <= s.Hi && lo <= hi {
			told = append(told, s)
		}
	}
	return told
}

// rooms: the keys of which two histories tell unlike things, run by run.
func rooms[V comparable](a, b history[V]) []api.Room {
	var told []api.Room
	edges := slices.Concat(a.edges(), b.edges())
	slices.Sort(edges)
	edges = slices.Compact(edges)
	for i, lo := range edges {
		hi := uint64(last)
		if i+1 < len(edges) {
			hi = edges[i+1] - 1
		}
		v, inA := a.get(lo)
		w, inB := b.get(lo)
		if inA == inB && v == w {
			continue
		}
		if n := len(told); n > 0 && told[n-1].Hi == lo-1 {
			told[n-1].Hi = hi
			continue
		}
		told = append(told, api.Room{Lo: lo, Hi: hi})
	}
	return told
}

// compare holds all that a map tells against its history.
func compare[V comparable](t *testing.T, m *spans.Map[V], h history[V]) {
	t.Helper()
	want := h.spans()
	if got := m.Spans(); !slices.Equal(got, want) || m.Len() != len(want) {
		t.Fatalf("behind %+v: Spans = %v, Len = %d, want %v", h, got, m.Len(), want)
	}
	for _, k := range h.near() {
		v, ok := h.get(k)
		if got, has := m.Get(k); got != v || has != ok {
			t.Fatalf("behind %+v: Get(%d) = %v, %v, want %v, %v", h, k, got, has, v, ok)
		}
		var run, next spans.Span[V]
		at := slices.IndexFunc(want, func(s spans.Span[V]) bool { return s.Hi >= k })
		if at >= 0 {
			next = want[at]
		}
		if ok {
			run = next
		}
		if got, has := m.Run(k); got != run || has != ok {
			t.Fatalf("behind %+v: Run(%d) = %v, %v, want %v, %v", h, k, got, has, run, ok)
		}
		if got, has := m.Next(k); got != next || has != (at >= 0) {
			t.Fatalf("behind %+v: Next(%d) = %v, %v, want %v", h, k, got, has, next)
		}
	}
}

// compareWithin holds Within against the history for each two keys round its edges.
func compareWithin[V comparable](t *testing.T, m *spans.Map[V], h history[V]) {
	t.Helper()
	want := h.spans()
	for _, lo := range h.near() {
		for _, hi := range h.near() {
			got := slices.Collect(m.Within(lo, hi))
			if !slices.Equal(got, cut(want, lo, hi)) {
				t.Fatalf("behind %+v: Within(%d, %d) = %v", h, lo, hi, got)
			}
		}
	}
}

// laid: the map of the chapter's examples.
func laid(t *testing.T) *spans.Map[int] {
	t.Helper()
	return mapOf(t, []spans.Span[int]{{Lo: 10, Hi: 19, Val: 7}, {Lo: 30, Hi: 39, Val: 7}, {Lo: 15, Hi: 34, Val: 8}}...)
}

// mapOf: a map in which the spans were set one behind another.
func mapOf[V comparable](t *testing.T, list ...spans.Span[V]) *spans.Map[V] {
	t.Helper()
	m := spans.New[V]()
	for _, s := range list {
		do(t, m, step[V]{lo: s.Lo, hi: s.Hi, val: s.Val})
	}
	return m
}

func wantSpans[V comparable](t *testing.T, m *spans.Map[V], want ...spans.Span[V]) {
	t.Helper()
	if got := m.Spans(); !slices.Equal(got, want) || m.Len() != len(want) {
		t.Errorf("Spans = %v, Len = %d, want %v", got, m.Len(), want)
	}
}

// F2.1
func TestNewHasNoValue(t *testing.T) {
	m := spans.New[int]()
	if m == nil {
		t.Fatal("New = nil")
	}
	compare(t, m, nil)
	compareWithin(t, m, nil)
	do(t, m, step[int]{lo: 0, hi: last, val: 1})
	wantSpans(t, spans.New[int]())
}

// F2.2, F2.3, F2.5, F2.7: the chapter's table.
func TestExamples(t *testing.T) {
	m := laid(t)
	a, b, c := spans.Span[int]{Lo: 10, Hi: 14, Val: 7}, spans.Span[int]{Lo: 15, Hi: 34, Val: 8}, spans.Span[int]{Lo: 35, Hi: 39, Val: 7}
	wantSpans(t, m, a, b, c)
	if e := m.Set(5, 4, 1); e != api.ErrSpan {
		t.Errorf("Set(5, 4, 1) = %d", e)
	}
	for _, x := range []struct {
		k   uint64
		val int
		ok  bool
	}{{14, 7, true}, {15, 8, true}, {40, 0, false}} {
		if v, ok := m.Get(x.k); v != x.val || ok != x.ok {
			t.Errorf("Get(%d) = %d, %v", x.k, v, ok)
		}
	}
	for _, x := range []struct {
		k         uint64
		run, next spans.Span[int]
	}{{20, b, b}, {9, spans.Span[int]{}, a}, {40, spans.Span[int]{}, spans.Span[int]{}}} {
		if s, ok := m.Run(x.k); s != x.run || ok != (x.run != spans.Span[int]{}) {
			t.Errorf("Run(%d) = %v, %v", x.k, s, ok)
		}
		if s, ok := m.Next(x.k); s != x.next || ok != (x.next != spans.Span[int]{}) {
			t.Errorf("Next(%d) = %v, %v", x.k, s, ok)
		}
	}
	if l := slices.Collect(m.Within(12, 30)); !slices.Equal(l, []spans.Span[int]{{Lo: 12, Hi: 14, Val: 7}, {Lo: 15, Hi: 30, Val: 8}}) {
		t.Errorf("Within(12, 30) = %v", l)
	}
	m.Set(15, 34, 7)
	wantSpans(t, m, spans.Span[int]{Lo: 10, Hi: 39, Val: 7})
	m.Clear(20, 20)
	wantSpans(t, m, spans.Span[int]{Lo: 10, Hi: 19, Val: 7}, spans.Span[int]{Lo: 21, Hi: 39, Val: 7})
	if d := spans.Diff(m, spans.New[int]()); !slices.Equal(d, []api.Room{{Lo: 10, Hi: 19}, {Lo: 21, Hi: 39}}) {
		t.Errorf("Diff = %v", d)
	}
	m.Set(0, last, 3)
	wantSpans(t, m, spans.Span[int]{Lo: 0, Hi: last, Val: 3})
	x := mapOf(t, spans.Span[int]{Lo: 0, Hi: 9, Val: 1}, spans.Span[int]{Lo: 10, Hi: 19, Val: 2})
	y := mapOf(t, spans.Span[int]{Lo: 0, Hi: 19, Val: 1})
	if d := spans.Diff(x, y); !slices.Equal(d, []api.Room{{Lo: 10, Hi: 19}}) {
		t.Errorf("Diff = %v", d)
	}
}

// F2.2: a range that is turned round changes nothing.
func TestTurnedRoundIsRefused(t *testing.T) {
	m := laid(t)
	want := m.Spans()
	for _, r := range []api.Room{{Lo: 1, Hi: 0}, {Lo: last, Hi: 0}, {Lo: last, Hi: last - 1}, {Lo: 15, Hi: 14}, {Lo: 34, Hi: 12}} {
		if e := m.Set(r.Lo, r.Hi, 9); e != api.ErrSpan {
			t.Errorf("Set(%d, %d) = %d", r.Lo, r.Hi, e)
		}
		if e := m.Clear(r.Lo, r.Hi); e != api.ErrSpan {
			t.Errorf("Clear(%d, %d) = %d", r.Lo, r.Hi, e)
		}
		wantSpans(t, m, want...)
	}
}

// F2.3: beside false stands the zero value, whatever lies near.
func TestNothingIsZero(t *testing.T) {
	m := mapOf(t, spans.Span[string]{Lo: 5, Hi: 9, Val: "low"}, spans.Span[string]{Lo: 20, Hi: 30, Val: "high"})
	for _, k := range []uint64{0, 4, 10, 19, 31, last} {
		if v, ok := m.Get(k); v != "" || ok {
			t.Errorf("Get(%d) = %q, %v", k, v, ok)
		}
		if s, ok := m.Run(k); s != (spans.Span[string]{}) || ok {
			t.Errorf("Run(%d) = %v, %v", k, s, ok)
		}
	}
	for _, k := range []uint64{31, last} {
		if s, ok := m.Next(k); s != (spans.Span[string]{}) || ok {
			t.Errorf("Next(%d) = %v, %v", k, s, ok)
		}
	}
}

// P2.1, P2.2, P2.3: each three steps over four neighbouring keys, at both ends of all keys and in the middle.
func TestEachThreeSteps(t *testing.T) {
	for _, base := range []uint64{0, 1<<63 - 2, last - 3} {
		var steps []step[int]
		for lo := range uint64(4) {
			for hi := range uint64(4) {
				for v := range 3 {
					steps = append(steps, step[int]{lo: base + lo, hi: base + hi, val: v, cleared: v == 2})
				}
			}
		}
		for _, a := range steps {
			for _, b := range steps {
				one := spans.New[int]()
				do(t, one, a)
				do(t, one, b)
				for _, c := range steps {
					m := one.Clone()
					do(t, m, c)
					want := history[int]{a, b, c}.spans()
					if got := m.Spans(); !slices.Equal(got, want) || m.Len() != len(want) {
						t.Fatalf("behind %v, %v, %v: Spans = %v, want %v", a, b, c, got, want)
					}
					if m.Len() > one.Len()+2 {
						t.Fatalf("behind %v, %v, %v: %d spans more", a, b, c, m.Len()-one.Len())
					}
				}
			}
		}
	}
}

// label: values of a struct, of unlike ones whose beginnings are alike.
type label struct {
	name string
	at   [2]int
}

// points: keys, few enough that ranges meet often, with both ends among them.
func points() []uint64 {
	keys := []uint64{1<<63 - 1, 1 << 63, 1<<63 + 1}
	for i := range uint64(12) {
		keys = append(keys, i, last-i)
	}
	return keys
}

// chance: steps that hang on the seed alone; some are turned round.
func chance[V comparable](seed int64, many int, vals []V) history[V] {
	r := rand.New(rand.NewSource(seed))
	keys := points()
	var h history[V]
	for range many {
		s := step[V]{lo: keys[r.Intn(len(keys))], hi: keys[r.Intn(len(keys))]}
		if r.Intn(8) > 0 {
			s.lo, s.hi = min(s.lo, s.hi), max(s.lo, s.hi)
		}
		// Narrow ranges oftener, else one range would cover all that stood there.
		if r.Intn(3) > 0 {
			s.hi = s.lo + uint64(r.Intn(3))
		}
		if r.Intn(3) == 0 {
			s.cleared = true
		} else {
			s.val = vals[r.Intn(len(vals))]
		}
		h = append(h, s)
	}
	return h
}

// replay holds a map against its history behind each step.
func replay[V comparable](t *testing.T, h history[V]) *spans.Map[V] {
	t.Helper()
	m := spans.New[V]()
	for i, s := range h {
		ahead := m.Len()
		do(t, m, s)
		if m.Len() > ahead+2 {
			t.Fatalf("behind %+v: %d spans more", h[:i+1], m.Len()-ahead)
		}
		compare(t, m, h[:i+1])
	}
	return m
}

// P2.1, P2.2, P2.3, F2.3, F2.5: numbers, structs, texts.
func TestAnySteps(t *testing.T) {
	for seed := range int64(60) {
		ints := chance(seed, 40, []int{0, 1, 2})
		compareWithin(t, replay(t, ints), ints)
		labels := chance(seed, 40, []label{{}, {"a", [2]int{1, 2}}, {"a", [2]int{1, 3}}})
		compareWithin(t, replay(t, labels), labels)
		texts := chance(seed, 40, []string{"", "a", "b"})
		compareWithin(t, replay(t, texts), texts)
	}
}

// P2.1, P2.2: many spans, laid from above, from below and between.
func TestManySpans(t *testing.T) {
	const many = 3000
	m := spans.New[uint64]()
	for i := range uint64(many) {
		k := i * 7919 % many
		m.Set(k*10, k*10+4, k)
	}
	if m.Len() != many {
		t.Fatalf("Len = %d", m.Len())
	}
	for k := range uint64(many) {
		want := spans.Span[uint64]{Lo: k * 10, Hi: k*10 + 4, Val: k}
		if s, ok := m.Run(k*10 + 4); s != want || !ok {
			t.Fatalf("Run(%d) = %v, %v", k*10+4, s, ok)
		}
		if _, ok := m.Get(k*10 + 5); ok {
			t.Fatalf("Get(%d) is one", k*10+5)
		}
	}
	m.Clear(15, many*10-17)
	if m.Len() != 4 {
		t.Errorf("behind Clear: %v", m.Spans())
	}
}

// F2.4: the chapter's examples.
func TestGapExamples(t *testing.T) {
	m := laid(t)
	for _, x := range []struct {
		lo, hi, n, align, want uint64
		ok                     bool
	}{
		{0, 100, 5, 4, 0, true}, {8, 100, 5, 4, 40, true}, {8, 43, 5, 4, 0, false},
		{0, last, 0, 1, 0, false}, {last, last, 1, 1, last, true}, {last, last, 2, 1, 0, false},
		{0, last, 1, 0, 0, false}, {0, last, 0, 0, 0, false}, {9, 4, 1, 1, 0, false}, {last, 0, 1, 1, 0, false},
		{8, 44, 5, 4, 40, true}, {11, last, last, 1, 0, false}, {40, last, last - 39, 1, 40, true}, {40, last, last - 38, 1, 0, false},
		{41, last, 1, 1 << 63, 1 << 63, true}, {1<<63 + 1, last, 1, 1 << 63, 0, false},
		{1, last, 1, last, last, true}, {1, last, 1, last - 1, last - 1, true}, {last, last, 1, last - 1, 0, false},
	} {
		if g, ok := m.Gap(x.lo, x.hi, x.n, x.align); g != x.want || ok != x.ok {
			t.Errorf("Gap(%d, %d, %d, %d) = %d, %v", x.lo, x.hi, x.n, x.align, g, ok)
		}
	}
	m.Set(5, last, 1)
	if g, ok := m.Gap(5, last, 1, 1); g != 0 || ok {
		t.Errorf("Gap above which all is full = %d, %v", g, ok)
	}
	if g, ok := spans.New[int]().Gap(0, last, last, 1); g != 0 || !ok {
		t.Errorf("Gap in an empty map = %d, %v", g, ok)
	}
	for _, x := range [][2]uint64{{0, 1}, {0, last}, {1, 0}, {last, 0}, {0, 0}} {
		if g, ok := spans.New[int]().Gap(0, last, x[0], x[1]); g != 0 || ok {
			t.Errorf("Gap of %d keys at %d in an empty map = %d, %v", x[0], x[1], g, ok)
		}
	}
	if g, ok := spans.New[int]().Gap(1, last, last, 3); g != 0 || ok {
		t.Errorf("Gap one too narrow = %d, %v", g, ok)
	}
}

// multipleFrom: the least multiple of align at or above k, as a whole number of any length.
func multipleFrom(k, align uint64) *big.Int {
	a := new(big.Int).SetUint64(align)
	n := new(big.Int).SetUint64(k)
	n.Add(n, a)
	n.Sub(n, big.NewInt(1))
	n.Div(n, a)
	return n.Mul(n, a)
}

// leastGap: of the multiples of align that stand first behind lo, or behind a span, the least that does. No other can be the least: the multiple one below it would lie in the same stretch without values, and do as well.
func leastGap[V comparable](list []spans.Span[V], lo, hi, n, align uint64) (uint64, bool) {
	if n == 0 || align == 0 {
		return 0, false
	}
	from := []uint64{lo}
	for _, s := range list {
		if s.Hi < last && s.Hi+1 > lo {
			from = append(from, s.Hi+1)
		}
	}
	for _, k := range from {
		g := multipleFrom(k, align)
		end := new(big.Int).SetUint64(n)
		end.Add(end, g).Sub(end, big.NewInt(1))
		if end.Cmp(new(big.Int).SetUint64(hi)) > 0 {
			continue
		}
		if len(cut(list, g.Uint64(), end.Uint64())) == 0 {
			return g.Uint64(), true
		}
	}
	return 0, false
}

// F2.4, P2.5: whole range, against numbers of any length.
func TestGapIsTheLeast(t *testing.T) {
	sizes := []uint64{0, 1, 2, 3, 4, 5, 7, 8, 1<<63 - 1, 1 << 63, 1<<63 + 1, last - 12, last - 1, last}
	found := 0
	for seed := range int64(25) {
		h := chance(seed, 25, []int{0, 1, 2})
		m := replay(t, h)
		list := m.Spans()
		for _, lo := range points() {
			for _, hi := range points() {
				for i, n := range sizes {
					align := sizes[(i+int(seed))%len(sizes)]
					want, ok := leastGap(list, lo, hi, n, align)
					if g, has := m.Gap(lo, hi, n, align); g != want || has != ok {
						t.Fatalf("%v: Gap(%d, %d, %d, %d) = %d, %v, want %d, %v", list, lo, hi, n, align, g, has, want, ok)
					}
					if ok {
						found++
					}
				}
			}
		}
	}
	if found == 0 {
		t.Error("no gap was ever there")
	}
}

// fits: whether the n keys from g on have no value and end at or below hi, key by key.
func fits(m *spans.Map[int], g, hi, n uint64) bool {
	for i := range n {
		if i > hi-g {
			return false
		}
		if _, ok := m.Get(g + i); ok {
			return false
		}
	}
	return true
}

// F2.4, P2.5: narrow ranges at both ends, where each key is tried.
func TestGapKeyByKey(t *testing.T) {
	for _, base := range []uint64{0, last - 15} {
		for pattern := range 256 {
			m := spans.New[int]()
			for bit := range uint64(8) {
				if pattern>>bit&1 == 1 {
					m.Set(base+2*bit, base+2*bit+bit%2, int(bit))
				}
			}
			for lo := range uint64(16) {
				for n := uint64(1); n < 5; n++ {
					for align := uint64(1); align < 6; align++ {
						tryGap(t, m, base+lo, base+15, n, align)
					}
				}
			}
		}
	}
}

func tryGap(t *testing.T, m *spans.Map[int], lo, hi, n, align uint64) {
	t.Helper()
	want, found := uint64(0), false
	for i := uint64(0); i <= hi-lo && !found; i++ {
		if g := lo + i; g%align == 0 && fits(m, g, hi, n) {
			want, found = g, true
		}
	}
	if g, ok := m.Gap(lo, hi, n, align); g != want || ok != found {
		t.Fatalf("%v: Gap(%d, %d, %d, %d) = %d, %v, want %d, %v", m.Spans(), lo, hi, n, align, g, ok, want, found)
	}
}

// F2.5: never nil, nothing when turned round, cut off at both ends.
func TestWithinEdges(t *testing.T) {
	m := mapOf(t, spans.Span[int]{Lo: 0, Hi: 3, Val: 1}, spans.Span[int]{Lo: last - 3, Hi: last, Val: 2})
	for _, x := range []struct {
		lo, hi uint64
		want   []spans.Span[int]
	}{
		{0, last, m.Spans()},
		{0, 0, []spans.Span[int]{{Lo: 0, Hi: 0, Val: 1}}},
		{last, last, []spans.Span[int]{{Lo: last, Hi: last, Val: 2}}},
		{3, last - 3, []spans.Span[int]{{Lo: 3, Hi: 3, Val: 1}, {Lo: last - 3, Hi: last - 3, Val: 2}}},
		{4, last - 4, nil}, {1, 0, nil}, {last, 0, nil}, {2, 1, nil}, {last, last - 1, nil},
	} {
		seq := m.Within(x.lo, x.hi)
		if seq == nil {
			t.Fatalf("Within(%d, %d) = nil", x.lo, x.hi)
		}
		if got := slices.Collect(seq); !slices.Equal(got, x.want) {
			t.Errorf("Within(%d, %d) = %v, want %v", x.lo, x.hi, got, x.want)
		}
	}
	if seq := spans.New[int]().Within(0, last); seq == nil || slices.Collect(seq) != nil {
		t.Error("Within of an empty map")
	}
}

// F2.5: again, stopped early, nested.
func TestWithinAgainAndNested(t *testing.T) {
	m := laid(t)
	seq := m.Within(0, last)
	for range 3 {
		if got := slices.Collect(seq); !slices.Equal(got, m.Spans()) {
			t.Fatalf("again: %v", got)
		}
	}
	for stop := 1; stop <= 3; stop++ {
		calls := 0
		seq(func(spans.Span[int]) bool {
			calls++
			return calls < stop
		})
		if calls != stop {
			t.Errorf("stopped at %d: %d calls", stop, calls)
		}
	}
	var pairs [][2]uint64
	for a := range seq {
		for b := range seq {
			if b.Lo > a.Lo {
				break
			}
			pairs = append(pairs, [2]uint64{a.Lo, b.Lo})
		}
	}
	want := [][2]uint64{{10, 10}, {15, 10}, {15, 15}, {35, 10}, {35, 15}, {35, 35}}
	if !slices.Equal(pairs, want) {
		t.Errorf("nested: %v", pairs)
	}
	next, stop := iter.Pull(seq)
	defer stop()
	if s, ok := next(); s.Lo != 10 || !ok {
		t.Errorf("pulled: %v, %v", s, ok)
	}
}

// F2.5: a ranging goes through the map as it is when it begins.
func TestWithinWhileTheMapChanges(t *testing.T) {
	changes := map[string]func(m *spans.Map[int], s spans.Span[int]){
		"clear all":  func(m *spans.Map[int], _ spans.Span[int]) { m.Clear(0, last) },
		"set all":    func(m *spans.Map[int], _ spans.Span[int]) { m.Set(0, last, 1) },
		"clear it":   func(m *spans.Map[int], s spans.Span[int]) { m.Clear(s.Lo, s.Hi) },
		"cut it":     func(m *spans.Map[int], s spans.Span[int]) { m.Clear(s.Lo+1, s.Lo+1) },
		"set behind": func(m *spans.Map[int], s spans.Span[int]) { m.Set(s.Hi+1, s.Hi+3, 99) },
		"set ahead":  func(m *spans.Map[int], _ spans.Span[int]) { m.Set(0, 1, 99); m.Set(3, 4, 98) },
	}
	for name, change := range changes {
		m := laid(t)
		want := m.Spans()
		var got []spans.Span[int]
		for s := range m.Within(0, last) {
			got = append(got, s)
			change(m, s)
		}
		if !slices.Equal(got, want) {
			t.Errorf("%s: %v", name, got)
		}
	}
	m := laid(t)
	seq := m.Within(12, 36)
	m.Clear(0, last)
	if got := slices.Collect(seq); len(got) != 0 {
		t.Errorf("cleared ahead of the ranging: %v", got)
	}
	m.Set(30, 40, 5)
	if got := slices.Collect(seq); !slices.Equal(got, []spans.Span[int]{{Lo: 30, Hi: 36, Val: 5}}) {
		t.Errorf("set ahead of the ranging: %v", got)
	}
}

// F2.6, P2.6: a clone is the same, and apart.
func TestCloneIsApart(t *testing.T) {
	for seed := range int64(40) {
		h := chance(seed, 20, []label{{}, {"a", [2]int{}}, {"b", [2]int{0, 1}}})
		m := replay(t, h)
		c := m.Clone()
		compare(t, c, h)
		if c == m || !spans.Equal(m, c) {
			t.Fatalf("Clone of %v is %v", m.Spans(), c.Spans())
		}
		ofMap, ofClone := slices.Clone(h), slices.Clone(h)
		for i, s := range chance(seed+1000, 20, []label{{"a", [2]int{}}, {"c", [2]int{}}}) {
			if i%2 == 0 {
				do(t, m, s)
				ofMap = append(ofMap, s)
			} else {
				do(t, c, s)
				ofClone = append(ofClone, s)
			}
			compare(t, m, ofMap)
			compare(t, c, ofClone)
		}
	}
	wantSpans(t, spans.New[int]().Clone())
}

// spoil writes over a list and its spare room.
func spoil[T any](list []T, with T) {
	list = list[:cap(list)]
	for i := range list {
		list[i] = with
	}
}

// P2.6, and rule 4 of DOC.md: lists that are told are new memory, spare room too.
func TestListsAreNewMemory(t *testing.T) {
	bad := spans.Span[int]{Lo: 1, Hi: 0, Val: -1}
	for seed := range int64(40) {
		h := chance(seed, 30, []int{0, 1, 2})
		m := spans.New[int]()
		for i, s := range h {
			do(t, m, s)
			spoil(m.Spans(), bad)
			spoil(spans.Diff(m, spans.New[int]()), api.Room{Lo: 9, Hi: 3})
			compare(t, m, h[:i+1])
		}
		told, rooms := m.Spans(), spans.Diff(m, nil)
		want, wantRooms := slices.Clone(told), slices.Clone(rooms)
		other := m.Spans()
		spoil(other, bad)
		m.Set(0, last, 9)
		m.Clear(3, last-3)
		spoil(spans.Diff(m, nil), api.Room{Lo: 9, Hi: 3})
		if !slices.Equal(told, want) || !slices.Equal(rooms, wantRooms) {
			t.Fatalf("what was told has changed: %v, %v", told, rooms)
		}
	}
}

// F2.7, P2.4.
func TestEqualAndDiff(t *testing.T) {
	equal := 0
	for seed := range int64(600) {
		// Few steps, so that some pairs are the same.
		a, b := chance(2*seed, 1+int(seed%6), []int{0, 1}), chance(2*seed+1, 1+int(seed%5), []int{0, 1})
		if seed%3 == 0 {
			b = append(slices.Clone(a), step[int]{lo: 4, hi: 5, val: 1})
		}
		m, n := replay(t, a), replay(t, b)
		want := rooms(a, b)
		there, back := spans.Diff(m, n), spans.Diff(n, m)
		if !slices.Equal(there, want) || !slices.Equal(back, want) {
			t.Fatalf("Diff of %v and %v = %v, turned %v, want %v", m.Spans(), n.Spans(), there, back, want)
		}
		alike := slices.Equal(m.Spans(), n.Spans())
		if spans.Equal(m, n) != alike || spans.Equal(n, m) != alike || alike != (len(want) == 0) {
			t.Fatalf("Equal of %v and %v is not %v", m.Spans(), n.Spans(), alike)
		}
		compare(t, m, a)
		compare(t, n, b)
		if alike {
			equal++
		}
		if !spans.Equal(m, m) || len(spans.Diff(m, m)) != 0 {
			t.Fatalf("%v is unlike itself", m.Spans())
		}
	}
	if equal == 0 {
		t.Error("no two maps were the same")
	}
}

// F2.7: a nil map has no value; the zero value is a value.
func TestEqualAndDiffEdges(t *testing.T) {
	empty := spans.New[int]()
	all := mapOf(t, spans.Span[int]{Lo: 0, Hi: last, Val: 0})
	ends := mapOf(t, spans.Span[int]{Lo: 0, Hi: 0, Val: 0}, spans.Span[int]{Lo: last, Hi: last, Val: 0})
	for _, x := range []struct {
		a, b *spans.Map[int]
		want []api.Room
	}{
		{nil, nil, nil}, {nil, empty, nil}, {empty, empty, nil},
		{all, nil, []api.Room{{Lo: 0, Hi: last}}},
		{all, empty, []api.Room{{Lo: 0, Hi: last}}},
		{ends, nil, []api.Room{{Lo: 0, Hi: 0}, {Lo: last, Hi: last}}},
		{ends, all, []api.Room{{Lo: 1, Hi: last - 1}}},
		// Of unlike pieces that touch one room is made.
		{mapOf(t, spans.Span[int]{Lo: 4, Hi: 7, Val: 1}), mapOf(t, spans.Span[int]{Lo: 0, Hi: 3, Val: 1}, spans.Span[int]{Lo: 6, Hi: 9, Val: 2}), []api.Room{{Lo: 0, Hi: 9}}},
	} {
		if got := spans.Diff(x.a, x.b); !slices.Equal(got, x.want) {
			t.Errorf("Diff = %v, want %v", got, x.want)
		}
		if got := spans.Diff(x.b, x.a); !slices.Equal(got, x.want) {
			t.Errorf("Diff turned = %v, want %v", got, x.want)
		}
		if spans.Equal(x.a, x.b) != (len(x.want) == 0) || spans.Equal(x.b, x.a) != (len(x.want) == 0) {
			t.Errorf("Equal where Diff = %v", x.want)
		}
	}
}

// Values are held against each other by ==: a NaN is unlike itself.
func TestValuesUnlikeThemselves(t *testing.T) {
	m := spans.New[float64]()
	m.Set(0, 9, math.NaN())
	m.Set(10, 19, math.NaN())
	if m.Len() != 2 || spans.Equal(m, m) || !slices.Equal(spans.Diff(m, m.Clone()), []api.Room{{Lo: 0, Hi: 19}}) {
		t.Errorf("NaN: %v", m.Spans())
	}
	m.Clear(3, 15)
	if l := m.Spans(); len(l) != 2 || l[0].Hi != 2 || l[1].Lo != 16 || l[1].Hi != 19 {
		t.Errorf("NaN: %v", l)
	}
}

// Rule 1 of DOC.md: no call panics, even where values have no ==; they are unlike all.
func TestValuesWithoutEquality(t *testing.T) {
	m := spans.New[any]()
	m.Set(0, 9, []int{1})
	m.Set(10, 19, []int{1})
	m.Set(20, 29, 3)
	m.Set(30, 39, 3)
	if m.Len() != 3 {
		t.Errorf("Len = %d", m.Len())
	}
	if spans.Equal(m, m.Clone()) || !slices.Equal(spans.Diff(m, m.Clone()), []api.Room{{Lo: 0, Hi: 19}}) {
		t.Errorf("Diff = %v", spans.Diff(m, m.Clone()))
	}
	if v, ok := m.Get(25); v != 3 || !ok {
		t.Errorf("Get = %v, %v", v, ok)
	}
}
