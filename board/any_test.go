package board_test

import (
	"fmt"
	"math/rand"
	"slices"
	"strings"
	"testing"

	"atlas/board"
	"atlas/script"
)

// world: what comes at random, from few names and addresses, so that they meet.
type world struct{ *rand.Rand }

func newWorld(seed int64) world { return world{rand.New(rand.NewSource(seed))} }

func pick[T any](w world, l ...T) T { return l[w.Intn(len(l))] }

// chance: true once in n.
func (w world) chance(n int) bool { return w.Intn(n) == 0 }

// name: mostly of a live space.
func (w world) name(x *model) string {
	if len(x.spaces) == 0 || w.chance(25) {
		return pick(w, "ada", "böb", "cyd", "Δ", "nobody")
	}
	return pick(w, strings.Fields(strings.ReplaceAll(x.tell(), "*", ""))[1:]...)
}

// va: of a page, mostly in the user's part.
func (w world) va(x *model) uint64 {
	end := x.end() >> 20
	meg := pick(w, 0, 0, 1, 1, 2, 16, 17, end-1, end-1)
	if w.chance(40) {
		meg = pick(w, end, 0xc00, 0xc01, 4095)
	}
	return meg<<20 + pick(w, uint64(0), 1, 2, 3, 15, 16, 17, 32, 254, 255)<<12
}

func (w world) rights() string {
	if w.chance(30) {
		return pick(w, "-w-", "--x", "-wx")
	}
	return pick(w, "---", "r--", "rw-", "rw-", "rw-", "r-x", "rwx")
}

// stretch: from a window of a space to another one, mostly to itself; sometimes not quite.
func (w world) stretch(x *model, name string) (uint64, uint64) {
	s := x.spaces[name]
	if s == nil || len(s.pages) == 0 {
		return w.va(x), 4096
	}
	l := s.windows()
	i := w.Intn(len(l))
	j := i
	for j+1 < len(l) && l[j].va+l[j].length() == l[j+1].va && w.chance(2) {
		j++
	}
	lo, hi := l[i].va, l[j].va+l[j].length()
	if w.chance(12) {
		hi += pick(w, uint64(4096), 1, 0x10000, 1<<39)
	}
	if w.chance(12) && hi-lo > 4096 {
		lo += 4096
	}
	return lo, hi - lo
}

// order: some line that is no noise, as the model stands.
func (w world) order(x *model) order {
	o := order{name: w.name(x)}
	o.va, o.length = w.stretch(x, o.name)
	switch w.Intn(24) {
	case 0, 1:
		o.verb, o.name = "create", pick(w, "ada", "böb", "cyd", "Δ")
	case 2:
		o.verb = pick(w, "destroy", "spaces")
	case 3, 4:
		o.verb = "switch"
		if w.chance(6) {
			o.name = ""
		}
	case 5, 6, 7, 8:
		o.verb, o.va, o.size, o.count, o.rights = "map", w.va(x), pick(w, "4k", "4k", "4k", "4k", "64k", "64k", "1m", "16m"), pick(w, 1, 1, 1, 2, 2, 3, 16), w.rights()
		if !w.chance(20) {
			o.va -= o.va % sizes[o.size]
		}
		if w.chance(20) {
			o.count = pick(w, 0, 257, 256, 60)
		}
	case 9, 10:
		o.verb = "unmap"
	case 11, 12:
		o.verb, o.rights = "protect", w.rights()
	case 13, 14, 15:
		o.verb, o.other, o.from, o.rights = "share", o.name, o.va, w.rights()
		o.name, o.va = w.name(x), w.va(x)
		if at := o.va - o.va%(1<<24) + o.from%(1<<24) + pick(w, uint64(0), 0x10000, 0x100000, 0x1000); at < 1<<32 && !w.chance(20) {
			o.va = at
		}
	case 16:
		o.verb, o.va = "query", w.near(x, o.name)
	default:
		return w.access(x)
	}
	return o
}

// near: an address in a window of a space, at its edges or beside it; else any.
func (w world) near(x *model, name string) uint64 {
	s := x.spaces[name]
	if s == nil || len(s.pages) == 0 || w.chance(4) {
		return w.va(x) + uint64(w.Intn(4096))
	}
	one := pick(w, s.windows()...)
	return (one.va + pick(w, 0, uint64(w.Int63n(int64(one.length()))), one.length()-1, 1<<32-1, one.length())) % (1 << 32)
}

// access: mostly of the current space's windows.
func (w world) access(x *model) order {
	o := order{verb: pick(w, "load", "load", "store", "store", "fetch"), bytes: pick(w, 1, 2, 4, 4, 4), value: w.Uint32()}
	name := w.name(x)
	for n, s := range x.spaces {
		if s == x.current && !w.chance(5) {
			name = n
		}
	}
	o.va = w.near(x, name)
	if !w.chance(10) {
		o.va -= o.va % uint64(o.bytes)
	}
	if w.chance(60) {
		o.bytes = pick(w, 0, 3, 8)
	}
	if w.chance(60) {
		o.mark = "priv"
	}
	return o
}

// number: in one of the ways to write it.
func (w world) number(v uint64) string {
	switch w.Intn(4) {
	case 0:
		return fmt.Sprint(v)
	case 1:
		return fmt.Sprintf("0x%X", v)
	case 2:
		return fmt.Sprintf("0x00_%x", v)
	}
	return fmt.Sprintf("0x%x", v)
}

// line: of an order, in one of the ways to write it.
func (w world) line(o order) string {
	l := []string{o.verb}
	name := o.name
	if name == "" {
		name = "-"
	}
	switch o.verb {
	case "create", "destroy", "switch":
		l = append(l, name)
	case "map":
		l = append(l, name, w.number(o.va), o.size, w.number(uint64(o.count)), o.rights)
	case "unmap":
		l = append(l, name, w.number(o.va), w.number(o.length))
	case "protect":
		l = append(l, name, w.number(o.va), w.number(o.length), o.rights)
	case "share":
		l = append(l, name, w.number(o.va), o.other, w.number(o.from), w.number(o.length), o.rights)
	case "query":
		l = append(l, name, w.number(o.va))
	case "load", "fetch":
		l = append(l, w.number(o.va), w.number(uint64(o.bytes)), o.mark)
	case "store":
		l = append(l, w.number(o.va), w.number(uint64(o.bytes)), w.number(uint64(o.value)), o.mark)
	}
	return pick(w, "", "", " ", "\t") + strings.TrimRight(strings.Join(l, pick(w, " ", " ", "  ", "\u3000")), " \u3000") + pick(w, "", "", " ", " # rest", "#")
}

// noise: a line of it, at places of TLBs of up to four, and mostly at addresses of windows.
func (w world) noise(x *model) string {
	last := pick(w, "", " first")
	switch w.Intn(4) {
	case 0:
		return fmt.Sprintf("noise none %d%s", w.Intn(4), last)
	case 1:
		return fmt.Sprintf("noise evict %s %d %d%s", pick(w, "i", "d", "main"), w.Intn(5), w.Intn(4), last)
	}
	return fmt.Sprintf("noise fill %d %s %d%s", w.near(x, w.name(x)), pick(w, "load", "fetch"), w.Intn(4), last)
}

// config: of a memory in which frames run out, or of a greater one.
type config struct{ frames, asids, n int }

func (w world) config(seed int64) config {
	return config{pick(w, 256, 256, 512, 1024), pick(w, 1, 2, 3, 4), 1 + int(seed%7)}
}

// boot: its line, with some places.
func (c config) boot(i, d, main int) string {
	return fmt.Sprintf("boot %d %d %d %d %d %d", c.frames, i, d, main, c.asids, c.n)
}

// story: orders as lines, with the model's replies to them, and noise lines ahead of each.
type story struct {
	c                   config
	lines, replies      []string
	noises              [][]string
	errors, faults, oks int
}

func newStory(seed int64, c config, length int) *story {
	w, x, s := newWorld(seed), newModel(c.frames, c.asids, c.n), &story{c: c}
	for i := range length {
		o := w.order(x)
		if i == 0 {
			o = order{verb: "create", name: "ada"}
		}
		s.lines = append(s.lines, w.line(o))
		s.replies = append(s.replies, x.reply(o))
		var l []string
		for w.chance(2) && len(l) < 9 {
			l = append(l, w.noise(x))
		}
		s.noises = append(s.noises, l)
	}
	for _, reply := range s.replies {
		switch reply[0] {
		case 'e':
			s.errors++
		case 'f':
			s.faults++
		default:
			s.oks++
		}
	}
	return s
}

// hold: a board that is booted so replies what the model does, with the story's noise or without it.
func (s *story) hold(t *testing.T, noisy bool, i, d, main int) {
	t.Helper()
	k := newTalk(t, s.c.boot(i, d, main))
	for j, line := range s.lines {
		if noisy {
			k.same("ok", s.noises[j]...)
		}
		if got := k.b.Line(line); got != s.replies[j] {
			t.Fatalf("%v, line %d: %q: %q, not %q", s.c, j, line, got, s.replies[j])
		}
	}
}

// TestMapModel: P1 and P5: any lines, any noise, unlike places of the TLBs: the replies are the map model's.
func TestMapModel(t *testing.T) {
	for seed := range int64(14) {
		t.Run(fmt.Sprint(seed), func(t *testing.T) {
			t.Parallel()
			s := newStory(seed, newWorld(seed).config(seed), 300)
			if total := len(s.lines); s.errors < total/20 || s.faults < total/40 || s.oks < total/4 {
				t.Errorf("the lines say too little: %d errors, %d faults, %d oks", s.errors, s.faults, s.oks)
			}
			s.hold(t, true, 1+int(seed)%3, 1+int(seed)%2, 1+int(seed)%5)
			s.hold(t, false, 4, 1, 16)
		})
	}
}

// TestMapModelGreat: likewise, where windows of 16 MiB fit in.
func TestMapModelGreat(t *testing.T) {
	for seed := range int64(3) {
		t.Run(fmt.Sprint(seed), func(t *testing.T) {
			t.Parallel()
			newStory(100+seed, config{12288, 2, 1 + int(seed)}, 100).hold(t, true, 2, 2, 2)
		})
	}
}

// TestRefusedLines: P6: a board that is not given the lines which were refused, the exhausted ones too, replies the same to all others; and one that is given them three times each.
func TestRefusedLines(t *testing.T) {
	for seed := range int64(7) {
		t.Run(fmt.Sprint(seed), func(t *testing.T) {
			t.Parallel()
			s := newStory(200+seed, config{256, 2, 1 + int(seed)}, 250)
			few, many := newTalk(t, s.c.boot(1, 1, 1)), newTalk(t, s.c.boot(2, 2, 2))
			for i, line := range s.lines {
				times := 1
				if strings.HasPrefix(s.replies[i], "error") {
					times = 3
				} else {
					few.says(line, s.replies[i])
				}
				for range times {
					many.says(line, s.replies[i])
				}
			}
		})
	}
}

// TestApart: P4, as far as lines tell it: what ada's user stores is seen by nobody else, and a window that is got holds zeros, whoever had its frames.
func TestApart(t *testing.T) {
	k := newTalk(t, "boot 256 1 1 1 2 2", "create ada", "create bob", "map ada 0x0 64k 8 rw-", "map bob 0x0 4k 16 rw-")
	for i := range 8 {
		k.all("switch ada", "ok", fmt.Sprintf("store %#x 4 0xffffffff", 0x10000*i+4*i), "ok")
		k.all("switch bob", "ok", fmt.Sprintf("load 0x%x 4", 4*i), "ok 0x0", "load 0x10000 4", "fault translation 2 domain 1 at 0x10000")
	}
	k.oks("destroy ada", "create cyd", "map cyd 0x0 64k 8 r--", "switch cyd")
	for i := range 8 {
		k.says(fmt.Sprintf("load %#x 4", 0x10000*i+4*i), "ok 0x0")
	}
}

// anyLines: the lines of a story with their noise, behind a boot, or of a bare board; some of them spoilt.
func anyLines(seed int64, length int) []string {
	w := newWorld(seed)
	c := config{256, 2, 2}
	s := newStory(seed, c, length)
	lines := []string{c.boot(1, 2, 2)}
	if w.chance(2) {
		lines = []string{baring}
	}
	for i, line := range s.lines {
		lines = append(append(lines, s.noises[i]...), line)
		if w.chance(2) {
			lines = append(lines, w.bareLine())
		}
		if w.chance(4) {
			lines = append(lines, w.spoilt(line))
		}
	}
	return lines
}

// spoilt: a line with some of its bytes gone, or others in their place; never with a line feed.
func (w world) spoilt(line string) string {
	b := []byte(line)
	for range 1 + w.Intn(3) {
		at := w.Intn(len(b) + 1)
		switch w.Intn(3) {
		case 0:
			b = b[:at]
		case 1:
			b = slices.Insert(b, at, pick(w, byte(' '), '#', '-', '_', 'x', '0', 0xff, 0xc3, 0))
		default:
			if at < len(b) {
				b = slices.Delete(b, at, at+1)
			}
		}
	}
	return string(b)
}

// TestAnyLine: rule 1: each line has a reply of one of the forms, in each state, whatever it is.
func TestAnyLine(t *testing.T) {
	w := newWorld(1)
	for seed := range int64(6) {
		b := board.New()
		for _, line := range anyLines(300+seed, 150) {
			for _, one := range []string{line, w.spoilt(line), w.spoilt(w.spoilt(line)), w.bytes()} {
				if reply := b.Line(one); !isReply(reply) {
					t.Fatalf("%q: %q", one, reply)
				}
			}
		}
	}
}

// bytes: any, of a length around the limit at times.
func (w world) bytes() string {
	b := make([]byte, pick(w, w.Intn(20), w.Intn(20), 250+w.Intn(10)))
	w.Read(b)
	return string(b)
}

// isReply: has it one of the forms?
func isReply(reply string) bool {
	first, rest, _ := strings.Cut(reply, " ")
	switch first {
	case "":
		return reply == ""
	case "ok":
		return reply == "ok" || rest != ""
	case "error":
		var n int
		_, err := fmt.Sscanf(rest, "%d", &n)
		return err == nil && n > 0 && rest == fmt.Sprint(n)
	case "fault":
		text, at, ok := strings.Cut(rest, " at 0x")
		return ok && text != "" && at != ""
	}
	return false
}

// TestPrinted: P7: a line that parses, printed, is a line that parses to the same command, and has the same reply.
func TestPrinted(t *testing.T) {
	printed := 0
	for seed := range int64(6) {
		plain, again := board.New(), board.New()
		for _, line := range anyLines(400+seed, 150) {
			other := line
			if c, err := script.Parse(line); err == nil && c.Kind != 0 {
				if other, err = script.Print(c); err != nil {
					t.Fatalf("%q: Print: %v", line, err)
				}
				if back, err := script.Parse(other); err != nil || back != c {
					t.Fatalf("%q: %q: %v, not %v", line, other, back, c)
				}
				printed++
			}
			if a, b := plain.Line(line), again.Line(other); a != b {
				t.Fatalf("%q: %q, and %q: %q", line, a, other, b)
			}
		}
	}
	if printed < 1000 {
		t.Errorf("only %d lines parsed", printed)
	}
}
