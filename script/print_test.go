package script_test

import (
	"math"
	"math/rand"
	"slices"
	"strings"
	"testing"

	"atlas/api"
)

// full: the command of a row, with the first good word of each kind, and none in [ ].
func (r row) full() api.Command {
	c := r.base()
	for _, p := range r.parts {
		v, _ := valueOf(p.kind, goodWords(p.kind)[0])
		put(&c, p.field, v)
	}
	if r.mark != "" {
		put(&c, r.field, !r.says)
	}
	return c
}

// has: whether the row's words give the field.
func (r row) has(path string) bool {
	return path == r.field || slices.ContainsFunc(r.parts, func(p part) bool { return p.field == path })
}

// P1503: a Kind that is none is told ahead of all else.
func TestPrintVerb(t *testing.T) {
	for _, kind := range []int{math.MinInt, -20, -1, 0, 21, 22, 256 + 1, 1<<32 + 1, math.MaxInt} {
		for _, c := range []api.Command{{Kind: kind}, {Kind: kind, Name: "-"}, {Kind: kind, VA: 1, Bytes: -1}, {Kind: kind, Noise: api.Noise{Act: 9}}} {
			if got := printed(c); got != refused(api.ErrVerb, -1) {
				t.Errorf("%+v: %+v", c, got)
			}
			checkCommand(t, c)
		}
	}
}

// P1503: each field that a command has, at both ends of its range and right beyond them, with the mark and without it.
func TestPrintFields(t *testing.T) {
	for _, r := range rows {
		for _, p := range r.parts {
			taken := 0
			for _, v := range values(p.field) {
				c := r.full()
				put(&c, p.field, v)
				want := api.ErrForm
				if s, ok := textOf(p.kind, v); ok {
					want = api.OK
					taken++
					if got := printed(c).s; !slices.Contains(strings.Split(got, " "), s) {
						t.Errorf("%+v: %q without %q", c, got, s)
					}
				}
				if got := printed(c); got.e != want || got.at != -1 || (got.s == "") != (want != api.OK) {
					t.Errorf("%+v: %+v", c, got)
				}
				checkCommand(t, c)
				if r.mark != "" {
					put(&c, r.field, r.says)
					checkCommand(t, c)
				}
			}
			if taken < 2 {
				t.Errorf("%v: %s: only %d of the values are told", r.head, p.field, taken)
			}
		}
	}
}

// P1503: each field that a command does not have must be zero.
func TestPrintOtherFields(t *testing.T) {
	for _, r := range rows {
		if got := printed(r.full()); got.e != api.OK || got.s != strings.Join(modelFields(got.s), " ") {
			t.Errorf("%+v: %+v", r.full(), got)
		}
		checkCommand(t, r.full())
		for _, path := range leaves {
			if r.has(path) || path == "Noise.Act" {
				continue
			}
			for _, v := range values(path) {
				c := r.full()
				put(&c, path, v)
				want := api.ErrForm
				if fieldAt(&c, path).IsZero() {
					want = api.OK
				}
				if got := printed(c); got.e != want || got.at != -1 {
					t.Errorf("%+v: %+v", c, got)
				}
				checkCommand(t, c)
			}
		}
	}
}

// P1503: an Act that is none, one of another form of noise, and one where there is no noise.
func TestPrintActs(t *testing.T) {
	for _, r := range rows {
		for _, v := range values("Noise.Act") {
			c := r.full()
			put(&c, "Noise.Act", v)
			if act := v.(int); act < 0 || act > 2 || act != 0 && r.kind != api.CNoise {
				if got := printed(c); got != refused(api.ErrForm, -1) {
					t.Errorf("%+v: %+v", c, got)
				}
			}
			checkCommand(t, c)
		}
	}
	for _, act := range []int{math.MinInt, -1, 3, 4, math.MaxInt} {
		for _, first := range []bool{false, true} {
			c := api.Command{Kind: api.CNoise, Noise: api.Noise{Act: act, MainFirst: first}}
			if got := printed(c); got != refused(api.ErrForm, -1) {
				t.Errorf("%+v: %+v", c, got)
			}
		}
	}
}

// P1503: by hand, what is no command's.
func TestPrintRefuses(t *testing.T) {
	noise := func(n api.Noise) api.Command { return api.Command{Kind: api.CNoise, Noise: n} }
	for _, c := range []api.Command{
		{Kind: api.CCreate}, {Kind: api.CCreate, Name: "-"}, {Kind: api.CCreate, Name: "a b"}, {Kind: api.CCreate, Name: "a#"}, {Kind: api.CCreate, Name: "a "},
		{Kind: api.CCreate, Name: greek + "ι"}, {Kind: api.CCreate, Name: strings.Repeat("a", 300)}, {Kind: api.CCreate, Name: "a", Other: "b"},
		{Kind: api.CDestroy}, {Kind: api.CSwitch, Name: "-"}, {Kind: api.CSwitch, Name: " "}, {Kind: api.CQuery, VA: 1}, {Kind: api.CQuery, Name: "a 0x0 #"},
		{Kind: api.CShare, Name: "a"}, {Kind: api.CShare, Other: "a"}, {Kind: api.CMap, Name: "a"}, {Kind: api.CMap, Name: "a", Size: 5}, {Kind: api.CMap, Name: "a", Size: 1, Count: -1},
		{Kind: api.CMap, Name: "a", Size: 1, Len: 4096}, {Kind: api.CUnmap, Name: "a", Len: 1 << 40}, {Kind: api.CUnmap, Name: "a", Rights: api.Rights{Exec: true}},
		{Kind: api.CLoad, Bytes: -1}, {Kind: api.CLoad, Bytes: 1 << 31}, {Kind: api.CLoad, Value: 1}, {Kind: api.CFetch, PA: 1}, {Kind: api.CStore, Tuple: api.Tuple{Op2: 1}},
		{Kind: api.CSpaces, VA: 1}, {Kind: api.CSpaces, Priv: true}, {Kind: api.CDirty, Noise: api.Noise{MainFirst: true}}, {Kind: api.CDirty, Config: api.Config{N: 1}},
		{Kind: api.CPeek, PA: 1 << 40}, {Kind: api.CPeek, Value: 1}, {Kind: api.CPoke, PA: math.MaxUint64}, {Kind: api.CPoke, Priv: true}, {Kind: api.CBoot, Config: api.Config{Frames: -1}}, {Kind: api.CBoot, Config: api.Config{N: 1 << 31}},
		{Kind: api.CBare, Config: api.Config{Asids: 1}}, {Kind: api.CBare, Config: api.Config{N: 1}}, {Kind: api.CMcr, Tuple: api.Tuple{CRn: 16}}, {Kind: api.CMcr, Tuple: api.Tuple{Op1: 8}},
		{Kind: api.CMrc, Tuple: api.Tuple{CRm: -1}}, {Kind: api.CMrc, Tuple: api.Tuple{Op2: -1}}, {Kind: api.CMrc, Value: 1},
		noise(api.Noise{Which: 1}), noise(api.Noise{Slot: 1}), noise(api.Noise{VA: 1}), noise(api.Noise{Fetch: true}), noise(api.Noise{Pick: -1}), noise(api.Noise{Pick: 1 << 31}),
		noise(api.Noise{Act: 1}), noise(api.Noise{Act: 1, Which: 4}), noise(api.Noise{Act: 1, Which: 1, VA: 1}), noise(api.Noise{Act: 1, Which: 1, Fetch: true}), noise(api.Noise{Act: 1, Which: 1, Slot: -1}),
		noise(api.Noise{Act: 2, Which: 1}), noise(api.Noise{Act: 2, Slot: 1}), noise(api.Noise{Act: 3}), noise(api.Noise{Act: -1}),
		{Kind: api.CNoise, VA: 4096, Noise: api.Noise{Act: 2}},
	} {
		if got := printed(c); got != refused(api.ErrForm, -1) {
			t.Errorf("%+v: %+v", c, got)
		}
		checkCommand(t, c)
	}
}

// P1503: the longest line there is has far fewer bytes than a line may have.
func TestPrintLongest(t *testing.T) {
	c := api.Command{Kind: api.CShare, Name: greek, VA: max32, Other: greek, From: max32, Len: max40, Rights: api.Rights{Read: true, Write: true, Exec: true}}
	want := "share " + greek + " 0xffffffff " + greek + " 0xffffffff 0xffffffffff rwx"
	if got := printed(c); got != (reply{s: want, at: -1}) || len(want) > 140 {
		t.Errorf("%+v", got)
	}
}

// P1503, P1504: any commands.
func TestAnyCommands(t *testing.T) {
	r := rand.New(rand.NewSource(16))
	all := map[string][]any{}
	for _, path := range leaves {
		all[path] = values(path)
	}
	told := 0
	for range 60000 {
		x := rows[r.Intn(len(rows))]
		c := x.full()
		for _, path := range leaves {
			if x.has(path) && r.Intn(3) == 0 || r.Intn(200) == 0 {
				put(&c, path, all[path][r.Intn(len(all[path]))])
			}
		}
		if r.Intn(100) == 0 {
			c.Kind = r.Intn(24) - 1
		}
		checkCommand(t, c)
		if printed(c).e == api.OK {
			told++
		}
	}
	if told < 10000 {
		t.Errorf("only %d of them have a line", told)
	}
}
