package board_test

import (
	"fmt"
	"strconv"
	"strings"
	"testing"

	"atlas/api"
	"atlas/board"
	"atlas/machine"
	"atlas/rights"
	"atlas/script"
	"atlas/walk"
)

// address: of a few MiB and pages.
func (w world) address() uint32 {
	return pick(w, uint32(0), 0, 0, 1, 1, 2, 16, 31, 0x400)<<20 + pick(w, uint32(0), 1, 2, 3, 16, 31, 255)<<12 + 4*(w.Uint32()%4)
}

// bareLine: some line to a bare board with its tables at 0x4000, 0x8000 and 0xc000.
func (w world) bareLine() string {
	switch w.Intn(20) {
	case 0, 1, 2, 3, 4, 5, 6, 7:
		bytes := pick(w, 1, 2, 4, 4, 4, 4)
		va := w.address()
		if w.chance(12) {
			va++
		}
		value := ""
		verb := pick(w, "load", "load", "store", "fetch")
		if verb == "store" {
			value = fmt.Sprint(" ", w.Uint32()&0xff)
		}
		return fmt.Sprintf("%s 0x%x %d%s%s", verb, va, bytes, value, pick(w, "", " priv"))
	case 8, 9, 10:
		return fmt.Sprintf("poke 0x%x 0x%x", pick(w, uint32(0x4000), 0x8000)+4*pick(w, uint32(0), 0, 1, 2, 16+w.Uint32()%16, 0x400), w.first())
	case 11, 12, 13:
		return fmt.Sprintf("poke 0x%x 0x%x", 0xc000+1024*(w.Uint32()%2)+4*pick(w, uint32(0), 1, 2, 3, 16+w.Uint32()%16, 255), w.second())
	case 14:
		return pick(w, "mcr 2 0 0 0 0x4000", "mcr 2 0 0 0 0x8000", "mcr 2 0 0 1 0x8000", "mcr 2 0 0 2 0", "mcr 2 0 0 2 2", "mcr 2 0 0 2 0x10", "mcr 13 0 0 1 0", "mcr 13 0 0 1 1", "mcr 13 0 0 1 2")
	case 15:
		return pick(w, "mcr 3 0 0 0 5", "mcr 3 0 0 0 0xd", "mcr 3 0 0 0 1", "mcr 1 0 0 0 1", "mcr 1 0 0 0 1", "mcr 1 0 0 0 0x20000001", "mcr 1 0 0 0 0", "mcr 1 0 0 0 1 user")
	case 16:
		return pick(w, "mcr 8 0 7 0 0", "mcr 8 0 7 1 0x1000", "mcr 8 0 5 2 1", "mcr 8 0 3 3 0x2000", "mcr 7 0 8 0 0x1000", "mcr 7 0 8 3 0x10000", "mcr 7 0 10 4 0 user")
	case 17:
		return pick(w, "peek 0x4000", "peek 0xc004", "peek 0x100000", "mrc 5 0 0 0", "mrc 6 0 0 0", "mrc 5 0 0 1", "mrc 6 0 0 2", "mrc 7 0 4 0", "mrc 1 0 0 0 user", "dirty", "dirty")
	}
	return fmt.Sprintf(pick(w, "noise none %[2]d%[3]s", "noise evict d %[2]d 0%[3]s", "noise evict main %[2]d 1", "noise evict i %[2]d 0", "noise fill 0x%[1]x load %[2]d%[3]s", "noise fill 0x%[1]x fetch %[2]d"), w.address(), w.Intn(3), pick(w, "", " first"))
}

// first: a first-level descriptor: a table, a section, a part of a supersection, or nothing.
func (w world) first() uint32 {
	bits := pick(w, uint32(3), 3, 2, 1)<<10 + pick(w, uint32(0), 1)<<17 + pick(w, uint32(0), 0, 0, 1)<<4
	return pick(w, 0, 0xc001, 0xc001, 0xc021, 0xc401, 0xc401, 2+bits, 2+bits+1<<5, 0x100002+bits, 2+1<<18+bits, 0xfff00001)
}

// second: a second-level descriptor: a page, a part of a large one, or nothing.
func (w world) second() uint32 {
	bits := pick(w, uint32(3), 3, 2, 1)<<4 + pick(w, uint32(0), 1)<<11
	return pick(w, 0, 0, 0x10002+bits, 0x11002+bits, 0x4002+bits, 0x100002+bits, 0x11003+bits, 1+bits, 0x20001+bits)
}

// twin: a machine beside a bare board, and all blocks that walks by its registers found behind some step.
type twin struct {
	m     *machine.Machine
	found map[api.Trans]bool
}

// see: what is found now.
func (w *twin) see() {
	for t := range walk.Blocks(w.m, w.m.Context()) {
		w.found[t] = true
	}
}

// reply: the machine's answer to a command of a bare board, in the chapter's words.
func (w *twin) reply(c api.Command) string {
	switch c.Kind {
	case api.CNoise:
		return ok(w.m.Noise([]api.Noise{c.Noise}))
	case api.CLoad:
		return w.answer(c, api.Load)
	case api.CStore:
		return w.answer(c, api.Store)
	case api.CFetch:
		return w.answer(c, api.Fetch)
	case api.CPoke:
		return ok(w.m.Poke(c.PA, c.Value))
	case api.CPeek:
		return hex(w.m.Word(c.PA))
	case api.CMcr:
		return ok(w.m.Mcr(c.Tuple, c.Value, !c.Priv))
	case api.CMrc:
		return hex(w.m.Mrc(c.Tuple, !c.Priv))
	case api.CDirty:
		return fmt.Sprint("ok ", len(w.m.Dirty()))
	}
	return "error 150"
}

func ok(e api.Errno) string {
	if e != api.OK {
		return errno(int(e))
	}
	return "ok"
}

func hex(v uint32, e api.Errno) string {
	if e != api.OK {
		return errno(int(e))
	}
	return fmt.Sprintf("ok 0x%x", v)
}

func (w *twin) answer(c api.Command, kind int) string {
	a, e := w.m.Do(api.Access{Kind: kind, VA: c.VA, Bytes: c.Bytes, Value: c.Value, Priv: c.Priv})
	switch {
	case e != api.OK:
		return errno(int(e))
	case a.Fault != (api.Fault{}):
		return faulted(a.Fault, c.VA)
	case kind == api.Store:
		return "ok"
	}
	return fmt.Sprintf("ok 0x%x", a.Value)
}

func faulted(f api.Fault, va uint32) string {
	return fmt.Sprintf("fault %s at 0x%x", rights.Text(f), va)
}

// may: the replies that P2 allows to an access, by the memory as it stands ahead of it: that of the walk, alone where nothing is stale.
func (w *twin) may(c api.Command, kind int) map[string]bool {
	x := w.m.Context()
	pa, f := walk.Go(w.m, x, c.VA, c.Priv, kind)
	all := map[string]bool{w.reached(c, kind, pa, f): true}
	if !x.On || !w.m.Stale(x.Asid, c.VA) {
		return all
	}
	all[w.reached(c, kind, 0, api.Fault{Kind: api.FConflict})] = true
	for t := range w.found {
		length := uint64(1) << []int{0, 12, 16, 20, 24}[t.Size]
		if c.VA >= t.VA && uint64(c.VA) < uint64(t.VA)+length {
			all[w.reached(c, kind, t.PA+uint64(c.VA-t.VA), rights.Check(t, x, c.Priv, kind))] = true
		}
	}
	return all
}

// reached: the reply to an access that is translated so.
func (w *twin) reached(c api.Command, kind int, pa uint64, f api.Fault) string {
	word, e := w.m.Word(pa / 4 * 4)
	switch {
	case c.VA%uint32(c.Bytes) != 0:
		return faulted(api.Fault{Kind: api.FAlign}, c.VA)
	case f.Kind != api.FNone:
		return faulted(f, c.VA)
	case e != api.OK:
		return faulted(api.Fault{Kind: api.FBus}, c.VA)
	case kind == api.Store:
		return "ok"
	}
	return fmt.Sprintf("ok 0x%x", uint64(word)>>(8*(pa%4))&(1<<(8*c.Bytes)-1))
}

// TestStale: P1701 of a bare board, and P2: any lines: the replies are those of a machine that is given the same; an access that is not stale answers what the walk says, one that is stale that, or what some walk found ahead, or a conflict.
func TestStale(t *testing.T) {
	stale, old := 0, 0
	for seed := range int64(8) {
		w := newWorld(500 + seed)
		c := api.Config{Frames: 256, I: 1 + w.Intn(3), D: 1 + w.Intn(3), Main: 1 + w.Intn(4)}
		m, _ := machine.New(c)
		two := &twin{m, map[api.Trans]bool{}}
		b := board.New()
		lines := []string{"mcr 2 0 0 0 0x4000", "mcr 2 0 0 1 0x8000", "mcr 3 0 0 0 5", "poke 0x4000 0xc001", "poke 0x4004 0xc02", "poke 0x4008 0xc401", "mcr 1 0 0 0 1"}
		for range 500 {
			lines = append(lines, w.bareLine())
		}
		b.Line(fmt.Sprintf("bare %d %d %d %d", c.Frames, c.I, c.D, c.Main))
		for i, line := range lines {
			said, err := script.Parse(line)
			if err != nil {
				t.Fatalf("%q: %v", line, err)
			}
			kind := map[int]int{api.CLoad: api.Load, api.CStore: api.Store, api.CFetch: api.Fetch}[said.Kind]
			var may map[string]bool
			if kind != 0 {
				may = two.may(said, kind)
			}
			got, want := b.Line(line), two.reply(said)
			if got != want || kind != 0 && !may[got] {
				t.Fatalf("seed %d, line %d: %q: %q, and %q of the machine, of %v", seed, i, line, got, want, may)
			}
			if len(may) > 1 {
				stale++
			}
			two.see()
		}
		old += len(two.found)
	}
	if stale < 50 || old < 100 {
		t.Errorf("the lines say too little: %d stale accesses, %d blocks", stale, old)
	}
}

// asked: the memory of a bare board, as its lines tell it.
type asked struct{ b *board.Board }

func (a asked) Word(pa uint64) (uint32, api.Errno) {
	v, err := strconv.ParseUint(strings.TrimPrefix(a.b.Line(fmt.Sprintf("peek %d", pa)), "ok 0x"), 16, 32)
	if err != nil {
		return 0, api.ErrBus
	}
	return uint32(v), api.OK
}

// TestCleanByLines: P2 in lines alone: where dirty says 0, a load answers what the walk says through peek, by what mrc tells of the registers.
func TestCleanByLines(t *testing.T) {
	clean := 0
	for seed := range int64(60) { // many, and short: a large block that is not whole in the tables is dirty for ever
		w := newWorld(600 + seed)
		k := newTalk(t, "bare 256 2 1 2", "poke 0x4000 0xc001", "mcr 2 0 0 0 0x4000", "mcr 3 0 0 0 5", "mcr 1 0 0 0 1")
		memory := asked{k.b}
		for range 60 {
			k.b.Line(w.bareLine())
			if w.chance(4) {
				k.b.Line("mcr 8 0 7 0 0")
			}
			if k.b.Line("dirty") != "ok 0" || k.b.Line("mrc 1 0 0 0") != "ok 0x1" || k.b.Line("mrc 2 0 0 2") != "ok 0x0" {
				continue
			}
			var root, dacr uint32
			fmt.Sscanf(k.b.Line("mrc 2 0 0 0"), "ok 0x%x", &root)
			fmt.Sscanf(k.b.Line("mrc 3 0 0 0"), "ok 0x%x", &dacr)
			va := w.address()
			pa, f := walk.Go(memory, api.Context{On: true, Base0: uint64(root), DACR: dacr}, va, false, api.Load)
			want := ""
			if v, e := memory.Word(pa); f.Kind != api.FNone {
				want = faulted(f, va)
			} else if want = fmt.Sprintf("ok 0x%x", v); e != api.OK {
				want = faulted(api.Fault{Kind: api.FBus}, va)
			}
			k.says(fmt.Sprintf("load %d 4", va), want)
			clean++
		}
	}
	if clean < 500 {
		t.Errorf("only %d loads were clean", clean)
	}
}
