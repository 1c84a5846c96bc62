package script_test

import (
	"math/rand"
	"slices"
	"strings"
	"testing"

	"atlas/api"
)

// words: the line of a row, with the first good word of each kind.
func (r row) words() []string {
	l := slices.Clone(r.head)
	for _, p := range r.parts {
		l = append(l, goodWords(p.kind)[0])
	}
	return l
}

// with: the words, with that one in the place of another.
func with(l []string, at int, word string) string {
	l = slices.Clone(l)
	l[at] = word
	return strings.Join(l, " ")
}

// P1501, P1503: a line of each command, with all of its words, and the line that tells it. By hand, so that the model is held against something too.
func TestEachCommand(t *testing.T) {
	rw := api.Rights{Read: true, Write: true}
	for _, x := range []struct {
		line, told string
		c          api.Command
	}{
		{"boot 512 2 3 4 255 7", "", api.Command{Kind: 1, Config: api.Config{Frames: 512, I: 2, D: 3, Main: 4, Asids: 255, N: 7}}},
		{"bare 0x100 1 2 3", "bare 256 1 2 3", api.Command{Kind: 2, Config: api.Config{Frames: 256, I: 1, D: 2, Main: 3}}},
		{"noise none 1", "", api.Command{Kind: 3, Noise: api.Noise{Pick: 1}}},
		{"noise none 0x2 first", "noise none 2 first", api.Command{Kind: 3, Noise: api.Noise{Pick: 2, MainFirst: true}}},
		{"noise evict i 1 2", "", api.Command{Kind: 3, Noise: api.Noise{Act: 1, Which: 1, Slot: 1, Pick: 2}}},
		{"noise evict d 63 2147483647 first", "", api.Command{Kind: 3, Noise: api.Noise{Act: 1, Which: 2, Slot: 63, Pick: 2147483647, MainFirst: true}}},
		{"noise evict main 3 7 first", "", api.Command{Kind: 3, Noise: api.Noise{Act: 1, Which: 3, Slot: 3, Pick: 7, MainFirst: true}}},
		{"noise fill 4096 load 0", "noise fill 0x1000 load 0", api.Command{Kind: 3, Noise: api.Noise{Act: 2, VA: 4096}}},
		{"noise fill 0xffffffff fetch 9 first", "", api.Command{Kind: 3, Noise: api.Noise{Act: 2, VA: max32, Fetch: true, Pick: 9, MainFirst: true}}},
		{"create ada", "", api.Command{Kind: 4, Name: "ada"}},
		{"destroy böb", "", api.Command{Kind: 5, Name: "böb"}},
		{"switch ada", "", api.Command{Kind: 6, Name: "ada"}},
		{"switch -", "", api.Command{Kind: 6}},
		{"map ada 0x10000 64k 1 rw-", "", api.Command{Kind: 7, Name: "ada", VA: 65536, Size: 2, Count: 1, Rights: rw}},
		{"unmap ada 4096 8192", "unmap ada 0x1000 0x2000", api.Command{Kind: 8, Name: "ada", VA: 4096, Len: 8192}},
		{"protect ada 0x1000 0x100000000 r-x", "", api.Command{Kind: 9, Name: "ada", VA: 4096, Len: 1 << 32, Rights: api.Rights{Read: true, Exec: true}}},
		{"share ada 0x1000 böb 0x2000 0x3000 ---", "", api.Command{Kind: 10, Name: "ada", VA: 4096, Other: "böb", From: 8192, Len: 12288}},
		{"query ada 0x1f_fff", "query ada 0x1ffff", api.Command{Kind: 11, Name: "ada", VA: 0x1ffff}},
		{"load 0x8 4", "", api.Command{Kind: 12, VA: 8, Bytes: 4}},
		{"load 0x8 4 priv", "", api.Command{Kind: 12, VA: 8, Bytes: 4, Priv: true}},
		{"store 0x8 2 51966", "store 0x8 2 0xcafe", api.Command{Kind: 13, VA: 8, Bytes: 2, Value: 0xcafe}},
		{"store 0x8 4 0xffffffff priv", "", api.Command{Kind: 13, VA: 8, Bytes: 4, Value: max32, Priv: true}},
		{"fetch 0xfffffffc 4", "", api.Command{Kind: 14, VA: 0xfffffffc, Bytes: 4}},
		{"fetch 0x0 007 priv", "fetch 0x0 7 priv", api.Command{Kind: 14, Bytes: 7, Priv: true}},
		{"spaces", "", api.Command{Kind: 15}},
		{"poke 0xffffffffff 0x1", "", api.Command{Kind: 16, PA: max40, Value: 1}},
		{"peek 16", "peek 0x10", api.Command{Kind: 17, PA: 16}},
		{"mcr 8 0 7 1 0x12345678", "", api.Command{Kind: 18, Tuple: api.Tuple{CRn: 8, CRm: 7, Op2: 1}, Value: 0x12345678, Priv: true}},
		{"mcr 15 7 15 7 0 user", "mcr 15 7 15 7 0x0 user", api.Command{Kind: 18, Tuple: api.Tuple{CRn: 15, Op1: 7, CRm: 15, Op2: 7}}},
		{"mrc 1 2 3 4", "", api.Command{Kind: 19, Tuple: api.Tuple{CRn: 1, Op1: 2, CRm: 3, Op2: 4}, Priv: true}},
		{"mrc 1 2 3 4 user", "", api.Command{Kind: 19, Tuple: api.Tuple{CRn: 1, Op1: 2, CRm: 3, Op2: 4}}},
		{"dirty", "", api.Command{Kind: 20}},
	} {
		if x.told == "" {
			x.told = x.line
		}
		if got := parsed(x.line); got != (reply{c: x.c, at: -1}) {
			t.Errorf("%q: %+v", x.line, got)
		}
		if got := printed(x.c); got != (reply{s: x.told, at: -1}) {
			t.Errorf("%+v: %+v", x.c, got)
		}
		checkLine(t, x.line)
		checkCommand(t, x.c)
	}
}

// P1501, P1503: the chapter's examples.
func TestExamples(t *testing.T) {
	ada := api.Command{Kind: api.CMap, Name: "ada", VA: 65536, Size: 2, Count: 1, Rights: api.Rights{Read: true, Write: true}}
	for line, want := range map[string]reply{
		"map ada 0x10000 64k 1 rw- # first": {c: ada, at: -1},
		"map ada 0x10000 64k":               refused(api.ErrForm, 4),
		"map ada 0x10000 64x 1":             refused(api.ErrWord, 3),
		"spaces now":                        refused(api.ErrForm, 1),
		"  ":                                {at: -1},
		"fly":                               refused(api.ErrVerb, 0),
		"switch -":                          {c: api.Command{Kind: api.CSwitch}, at: -1},
		"create -":                          refused(api.ErrName, 1),
		"noise evict main 3 7 first":        {c: api.Command{Kind: api.CNoise, Noise: api.Noise{Act: api.NEvict, Which: 3, Slot: 3, Pick: 7, MainFirst: true}}, at: -1},
		"noise fill 4096 load 0":            {c: api.Command{Kind: api.CNoise, Noise: api.Noise{Act: api.NFill, VA: 4096}}, at: -1},
		"mcr 8 0 7 0 0":                     {c: api.Command{Kind: api.CMcr, Tuple: api.Tuple{CRn: 8, CRm: 7}, Priv: true}, at: -1},
		"mcr 16 0 7 0 0":                    refused(api.ErrNumber, 1),
		"load 0x1000 4 user":                refused(api.ErrWord, 3),
		strings.Repeat("l", 257):            refused(api.ErrLong, -1),
	} {
		if got := parsed(line); got != want {
			t.Errorf("%q: %+v", line, got)
		}
		checkLine(t, line)
	}
	if got := printed(ada); got != (reply{s: "map ada 0x10000 64k 1 rw-", at: -1}) {
		t.Error(got)
	}
	if got := printed(api.Command{Kind: api.CCreate}); got != refused(api.ErrForm, -1) {
		t.Error(got)
	}
	fill := api.Command{Kind: api.CNoise, Noise: api.Noise{Act: api.NFill, VA: 4096}}
	if got := printed(fill); got != (reply{s: "noise fill 0x1000 load 0", at: -1}) {
		t.Error(got)
	}
}

// P1501: each word of each command as every good word of its kind, with the mark and without it.
func TestGoodWords(t *testing.T) {
	for _, r := range rows {
		for i, p := range r.parts {
			for _, w := range goodWords(p.kind) {
				line := with(r.words(), len(r.head)+i, w)
				want := r.base()
				for j, q := range r.parts {
					v, e := valueOf(q.kind, goodWords(q.kind)[0])
					if j == i {
						v, e = valueOf(q.kind, w)
					}
					if e != api.OK {
						t.Fatal(q.kind, w)
					}
					put(&want, q.field, v)
				}
				if r.mark != "" {
					put(&want, r.field, r.says)
					if got := parsed(line + " " + r.mark); got != (reply{c: want, at: -1}) {
						t.Errorf("%q: %+v", line, got)
					}
					checkLine(t, line+" "+r.mark)
					put(&want, r.field, !r.says)
				}
				if got := parsed(line); got != (reply{c: want, at: -1}) {
					t.Errorf("%q: %+v", line, got)
				}
				checkLine(t, line)
			}
		}
	}
}

// P1501: each word wrong in turn, alone, ahead of one that is wrong too, ahead of one that is missing, and ahead of one too many.
func TestWrongWords(t *testing.T) {
	for _, r := range rows {
		for i, p := range r.parts {
			at := len(r.head) + i
			bad, e := badWords(p.kind)
			for _, w := range bad {
				line := with(r.words(), at, w)
				lines := []string{line, line + " " + r.mark, line + " one too many", strings.Join(strings.Split(line, " ")[:at+1], " "), line + " # " + line}
				for j := range r.parts[i+1:] {
					lines = append(lines, with(strings.Split(line, " "), at+1+j, "?"))
				}
				for _, l := range lines {
					if got := parsed(l); got != refused(e, at) {
						t.Errorf("%q: %+v", l, got)
					}
					checkLine(t, l)
				}
			}
		}
	}
}

// P1501: the line cut behind each of its words, and each word left out in turn.
func TestMissingWords(t *testing.T) {
	for _, r := range rows {
		l := r.words()
		for n := 1; n < len(l); n++ {
			line := strings.Join(l[:n], " ")
			for _, s := range []string{line, line + " ", " " + line + "\t# " + strings.Join(l[n:], " ")} {
				if got := parsed(s); got != refused(api.ErrForm, n) {
					t.Errorf("%q: %+v", s, got)
				}
			}
			checkLine(t, strings.Join(slices.Delete(slices.Clone(l), n, n+1), " "))
			checkLine(t, strings.Join(slices.Delete(append(slices.Clone(l), r.mark), n, n+1), " "))
		}
	}
}

// P1501: one word too many, and several; where a mark may stand, any other word is wrong.
func TestTooManyWords(t *testing.T) {
	for _, r := range rows {
		line, n := strings.Join(r.words(), " "), len(r.words())
		if r.mark != "" {
			for _, w := range badMarks(r.mark) {
				for _, s := range []string{line + " " + w, line + " " + w + " " + r.mark, line + " " + w + " more"} {
					if got := parsed(s); got != refused(api.ErrWord, n) {
						t.Errorf("%q: %+v", s, got)
					}
					checkLine(t, s)
				}
			}
			line, n = line+" "+r.mark, n+1
		}
		for _, w := range []string{"0", "now", "first", "priv", "user", "-", "\xff", "now and then"} {
			if got := parsed(line + " " + w); got != refused(api.ErrForm, n) {
				t.Errorf("%q: %+v", line+" "+w, got)
			}
			checkLine(t, line+" "+w)
		}
	}
}

// P1501: what stands behind noise.
func TestActs(t *testing.T) {
	for line, want := range map[string]reply{
		"noise":                    refused(api.ErrForm, 1),
		"noise no":                 refused(api.ErrWord, 1),
		"noise None 1":             refused(api.ErrWord, 1),
		"noise 0 1":                refused(api.ErrWord, 1),
		"noise first":              refused(api.ErrWord, 1),
		"noise no more than this":  refused(api.ErrWord, 1),
		"noise none":               refused(api.ErrForm, 2),
		"noise none first":         refused(api.ErrNumber, 2),
		"noise none 1 2":           refused(api.ErrWord, 3),
		"noise none 1 first first": refused(api.ErrForm, 4),
		"noise evict":              refused(api.ErrForm, 2),
		"noise evict 1":            refused(api.ErrWord, 2),
		"noise evict i 1":          refused(api.ErrForm, 4),
		"noise evict i 1 first":    refused(api.ErrNumber, 4),
		"noise fill":               refused(api.ErrForm, 2),
		"noise fill load 0 0":      refused(api.ErrNumber, 2),
		"noise fill 0 load":        refused(api.ErrForm, 4),
		"noise fill 0 load first":  refused(api.ErrNumber, 4),
	} {
		if got := parsed(line); got != want {
			t.Errorf("%q: %+v", line, got)
		}
		checkLine(t, line)
	}
}

// P1501: names that are no command's.
func TestVerbs(t *testing.T) {
	lines := []string{"fly", "0", "-", "?", "\xff", "\n", "map\n", "böot", "first", "none", "ok", "CMap", "7", "map,", "\ufeffmap", "\vmap", "\u2002map", strings.Repeat("a", 256)}
	for name := range kinds {
		lines = append(lines, strings.ToUpper(name), strings.ToUpper(name[:1])+name[1:], name[:len(name)-1]+strings.ToUpper(name[len(name)-1:]), name+"s", name[:len(name)-1], name+"\n", name+"\x00", "x"+name)
	}
	for _, line := range lines {
		if kinds[line] != 0 {
			continue
		}
		for _, s := range []string{line, line + " ada 0x1000", " " + line + " ?"} {
			if len(s) > 256 {
				continue
			}
			if got := parsed(s); got != refused(api.ErrVerb, 0) {
				t.Errorf("%q: %+v", s, got)
			}
			checkLine(t, s)
		}
	}
}

// P1501: lines without a word are none, and no error.
func TestNoWord(t *testing.T) {
	for _, line := range []string{"", " ", "  ", "\t", "\r", "\u00a0", "\u2003", "\u3000", " \t\r\u00a0\u2003\u3000", "#", "# rest", "#map", " \t# fly # fly", "##", strings.Repeat(" ", 256), "#" + strings.Repeat("x", 255), strings.Repeat("\u3000", 85)} {
		if got := parsed(line); got != (reply{at: -1}) {
			t.Errorf("%q: %+v", line, got)
		}
		checkLine(t, line)
	}
}

// P1501: blanks of all sorts and comments make no difference.
func TestBlanks(t *testing.T) {
	for _, r := range rows {
		l := r.words()
		want := parsed(strings.Join(l, " "))
		for _, b := range []string{"\t", "\r", " ", "\u00a0", "\u2003", "\u3000", " \t\r\u00a0\u2003\u3000"} {
			for _, line := range []string{strings.Join(l, b), b + strings.Join(l, b), strings.Join(l, b) + b, b + b + strings.Join(l, b+b) + b, strings.Join(l, b) + "#", strings.Join(l, b) + "#more", strings.Join(l, b) + b + "# more # more"} {
				if len(line) > 256 {
					t.Fatal(line)
				}
				if got := parsed(line); got != want || got.e != api.OK {
					t.Errorf("%q: %+v", line, got)
				}
				checkLine(t, line)
			}
		}
		for n := range l { // a comment in the midst of a word ends the line there
			checkLine(t, strings.Join(l[:n], " ")+" "+l[n][:1]+"#"+l[n][1:]+" "+strings.Join(l[n+1:], " "))
		}
	}
	if got := parsed("destroy a#da"); got != (reply{c: api.Command{Kind: api.CDestroy, Name: "a"}, at: -1}) {
		t.Error(got)
	}
	if got := parsed("create a\nb"); got != refused(api.ErrName, 1) { // the line feed is no blank
		t.Error(got)
	}
}

// P1501: a line of 256 bytes is read, one of 257 is not, whatever stands in it.
func TestLong(t *testing.T) {
	for _, r := range rows {
		line := strings.Join(r.words(), " ")
		want := parsed(line)
		pads := []func(n int) string{
			func(n int) string { return line + strings.Repeat(" ", n) },
			func(n int) string { return strings.Repeat("\t", n) + line },
			func(n int) string { return line + "#" + strings.Repeat("x", n-1) },
			func(n int) string { return line + strings.Repeat("\u00a0", n/2) + strings.Repeat(" ", n%2) },
		}
		for i, pad := range pads {
			n := 256 - len(line)
			if got := parsed(pad(n)); len(pad(n)) != 256 || got != want || got.e != api.OK {
				t.Errorf("%q, %d: %+v", line, i, got)
			}
			for _, more := range []int{1, 2, 256, 65536} {
				if got := parsed(pad(n + more)); len(pad(n+more)) != 256+more || got != refused(api.ErrLong, -1) {
					t.Errorf("%q, %d, %d: %+v", line, i, more, got)
				}
			}
		}
	}
	for _, s := range []string{" ", "#", "a", "\xff", "\x00"} {
		if got := parsed(strings.Repeat(s, 257)); got != refused(api.ErrLong, -1) {
			t.Errorf("%q: %+v", s, got)
		}
	}
	if got := parsed(strings.Repeat("ö", 128)); got != refused(api.ErrVerb, 0) { // bytes are counted, not runes
		t.Error(got)
	}
	if got := parsed(strings.Repeat("ö", 129)); got != refused(api.ErrLong, -1) {
		t.Error(got)
	}
}

// anyWord: of any kind, good or bad.
func anyWord(r *rand.Rand, kind string) string {
	l := goodWords(kind)
	if r.Intn(8) == 0 {
		l, _ = badWords(kind)
	}
	return l[r.Intn(len(l))]
}

// anyLine: of a row, with a few things changed.
func anyLine(r *rand.Rand) string {
	x := rows[r.Intn(len(rows))]
	l := slices.Clone(x.head)
	for _, p := range x.parts {
		l = append(l, anyWord(r, p.kind))
	}
	if r.Intn(2) == 0 {
		l = append(l, x.mark)
	}
	if r.Intn(6) == 0 {
		i, j := r.Intn(len(l)), r.Intn(len(l))
		l[i], l[j] = l[j], l[i]
	}
	if r.Intn(6) == 0 {
		i := r.Intn(len(l))
		l = slices.Delete(l, i, i+1)
	}
	if r.Intn(6) == 0 {
		l = slices.Insert(l, r.Intn(len(l)+1), []string{"first", "priv", "user", "-", "0", "7", "ada", "#", "fetch"}[r.Intn(9)])
	}
	blanks := []string{" ", " ", " ", "  ", "\t", "\u3000"}
	return strings.Join(l, blanks[r.Intn(len(blanks))])
}

// P1501, P1504: any lines, made of words, and of bytes.
func TestAnyLines(t *testing.T) {
	r := rand.New(rand.NewSource(15))
	for range 100000 {
		checkLine(t, anyLine(r))
	}
	spoils := " \t#-_0x19afzAZ\x00\x80\xff\n"
	for range 50000 {
		b := []byte(anyLine(r))
		for range r.Intn(3) {
			if len(b) > 0 {
				b[r.Intn(len(b))] = spoils[r.Intn(len(spoils))]
			}
		}
		line := string(b)
		checkLine(t, line)
	}
}

// Rule 5: what is answered hangs on the line alone; what one caller writes into a command, nobody else sees.
func TestNothingIsKept(t *testing.T) {
	line := "share ada 0x1000 böb 0x2000 0x3000 r--"
	first := parsed(line)
	other := parsed(line)
	other.c.Name, other.c.VA, other.c.Rights.Write = "eve", 7, true
	parsed("noise evict main 3 7 first")
	printed(other.c)
	if again := parsed(line); again != first {
		t.Errorf("%+v, then %+v", first, again)
	}
	bytes := []byte(line)
	c := parsed(string(bytes))
	clear(bytes)
	if c != first {
		t.Errorf("%+v, then %+v", first, c)
	}
}
