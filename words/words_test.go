package words_test

import (
	"math"
	"math/big"
	"regexp"
	"slices"
	"strings"
	"testing"

	"atlas/api"
	"atlas/words"
)

// combine gives each text of at most most parts, the empty one among them, to the test.
func combine(parts []string, most int, test func(s string)) {
	var grow func(s string, left int)
	grow = func(s string, left int) {
		test(s)
		if left == 0 {
			return
		}
		for _, p := range parts {
			grow(s+p, left-1)
		}
	}
	grow("", most)
}

// runeBytes: how long the rune at the beginning of the text is; 0, if none begins there. It goes by the bytes alone, so that it leans on no decoder of the language.
func runeBytes(s string) int {
	next := func(i int, lo, hi byte) bool { return i < len(s) && lo <= s[i] && s[i] <= hi }
	more := func(i int) bool { return next(i, 0x80, 0xbf) }
	switch {
	case next(0, 0x00, 0x7f):
		return 1
	case next(0, 0xc2, 0xdf) && more(1):
		return 2
	case s[0] == 0xe0 && next(1, 0xa0, 0xbf) && more(2):
		return 3
	case s[0] == 0xed && next(1, 0x80, 0x9f) && more(2):
		return 3
	case s[0] != 0xed && next(0, 0xe1, 0xef) && more(1) && more(2):
		return 3
	case s[0] == 0xf0 && next(1, 0x90, 0xbf) && more(2) && more(3):
		return 4
	case next(0, 0xf1, 0xf3) && more(1) && more(2) && more(3):
		return 4
	case s[0] == 0xf4 && next(1, 0x80, 0x8f) && more(2) && more(3):
		return 4
	}
	return 0
}

// cutRunes: the runes of a text, each bad one as the byte that it is.
func cutRunes(s string) []string {
	var runes []string
	for len(s) > 0 {
		n := max(1, runeBytes(s))
		runes = append(runes, s[:n])
		s = s[n:]
	}
	return runes
}

// edgeBytes: bytes at the edges of what UTF-8 tells apart.
func edgeBytes() []string {
	return []string{"\x00", "#", "a", "\x7f", "\x80", "\x8f", "\x90", "\x9f", "\xa0", "\xbf", "\xc0", "\xc1", "\xc2", "\xdf", "\xe0", "\xe1", "\xed", "\xef", "\xf0", "\xf3", "\xf4", "\xf5", "\xff"}
}

// P101: the width of texts, by name and by their bytes.
func TestWidth(t *testing.T) {
	cases := []struct {
		s string
		n int
	}{
		{"", 0}, {"a", 1}, {"böb", 3}, {"a\xffb", 3},
		{"\u20ac", 1}, {"\xe2\x82", 2}, {"\xe2\x82a", 3}, {"\xe2", 1},
		{"\U0001f600", 1}, {"\xf0\x9f\x98", 3}, {"\xf0\x9f\x41\x80", 4},
		{"\ufffd", 1}, {"\ufffd\xff\ufffd", 3},
		{"\xed\x9f\xbf", 1}, {"\xed\xa0\x80", 3}, {"\xed\xbf\xbf", 3}, {"\xee\x80\x80", 1},
		{"\U0010ffff", 1}, {"\xf4\x90\x80\x80", 4},
		{"\xc0\x80", 2}, {"\xe0\x80\x80", 3}, {"\xf0\x80\x80\x80", 4},
		{"\x00\n\r", 3}, {strings.Repeat("ö\xff", 1000), 2000},
	}
	for _, c := range cases {
		if got := words.Width(c.s); got != c.n {
			t.Errorf("Width(%q) = %d, not %d", c.s, got, c.n)
		}
	}
}

func TestWidthByBytes(t *testing.T) {
	combine(edgeBytes(), 4, func(s string) {
		if got, want := words.Width(s), len(cutRunes(s)); got != want {
			t.Errorf("Width(%q) = %d, not %d", s, got, want)
		}
	})
}

// P102: names and texts that are none.
func TestName(t *testing.T) {
	names := []string{
		"a", "z", "A", "Z", "ada", "Ωmega_9", "Ångström", "a_", "a0", "a9", "a__9", "abcdefghijklmnop",
		strings.Repeat("é", 16), "Ω" + strings.Repeat("_", 15), "\u00c0", "\u024f", "\u0391", "\u03c9",
	}
	for _, s := range names {
		if !words.Name(s) {
			t.Errorf("%q is a name", s)
		}
	}
	others := []string{
		"", "9a", "_a", "9", "_", "a-b", "a b", " a", "a ", "a\n", "a#", "×", "÷", "a×", "a÷", "\u03a2", "a\u03a2",
		"a\xff", "\xffa", "\xe2\x82", "a\xc3", "\ufffd", "a\ufffd", "\u00bf", "\u0250", "\u0390", "\u03ca",
		"abcdefghijklmnopq", strings.Repeat("é", 17), strings.Repeat("a", 100000), "٣", "a٣",
	}
	for _, s := range others {
		if words.Name(s) {
			t.Errorf("%q is no name", s)
		}
	}
}

// P102: every rune there is, as a name's first one and behind it.
func TestNameOfEachRune(t *testing.T) {
	letter := func(r rune) bool {
		if r == 0xd7 || r == 0xf7 || r == 0x3a2 {
			return false
		}
		return 'a' <= r && r <= 'z' || 'A' <= r && r <= 'Z' || 0xc0 <= r && r <= 0x24f || 0x391 <= r && r <= 0x3c9
	}
	for r := rune(0); r <= 0x10ffff; r++ {
		if 0xd800 <= r && r <= 0xdfff {
			continue
		}
		first := letter(r)
		behind := first || '0' <= r && r <= '9' || r == '_'
		if words.Name(string(r)) != first {
			t.Errorf("Name(%q) is not %v", string(r), first)
		}
		if words.Name("q"+string(r)) != behind {
			t.Errorf("Name(%q) is not %v", "q"+string(r), behind)
		}
	}
}

// P103: numbers and texts that are none.
func TestNumber(t *testing.T) {
	numbers := map[string]uint64{
		"0": 0, "00": 0, "0x0": 0, "0x0_0": 0, "0_0": 0, "9": 9, "10": 10, "007": 7, "1_000": 1000, "1_2_3": 123,
		"0x1F": 31, "0x1f": 31, "0xabcdef": 0xabcdef, "0xABCDEF": 0xabcdef, "0xa_B": 0xab, "0x10": 16,
		"1099511627775": 1<<40 - 1, "0xffffffffff": 1<<40 - 1, "0xff_ffff_ffff": 1<<40 - 1,
		strings.Repeat("0", 1000) + "1099511627775":            1<<40 - 1,
		"0x" + strings.Repeat("0", 1000) + "1":                 1,
		strings.Repeat("0_", 1000) + "8":                       8,
		"1_0_9_9_5_1_1_6_2_7_7_7_5":                            1<<40 - 1,
		"0x" + strings.Repeat("0_", 1000) + "f_f_f_ffff_f_f_f": 1<<40 - 1,
	}
	for s, n := range numbers {
		if v, e := words.Number(s); v != n || e != api.OK {
			t.Errorf("Number(%q) = %d, %d, not %d", s, v, e, n)
		}
	}
	others := []string{
		"", " ", "_", "__", "0X1", "0x", "0x_", "_1", "1_", "1__2", "0x_1", "0x1_", "0x1__2", "0_x1", "_0x1", "00x1", "x1", "0x0x1",
		"-1", "+1", "-0", "1.0", "1e3", "a", "f", "1a", "0xg", "0xG", "0x@", "0x`", " 1", "1 ", "1\n", "0b1", "0o7",
		"1\xff", "\xff", "1\ufffd", "٣", "１", "0x１", "1/", "1:", "0x1/", "0x1:",
		"1099511627776", "0x100_0000_0000", "0x10000000000", "9999999999999", "18446744073709551616", "18446744073709551617",
		"0x10000000000000000", "0x10000000000000001", strings.Repeat("9", 1000), "0x" + strings.Repeat("1", 1000),
		"1099511627776_", "1099511627776z",
	}
	for _, s := range others {
		if v, e := words.Number(s); v != 0 || e != api.ErrNumber {
			t.Errorf("Number(%q) = %d, %d, not ErrNumber", s, v, e)
		}
	}
}

// P103: short texts of all kinds, held against a pattern and numbers of any length.
func TestNumberByPattern(t *testing.T) {
	decimal := regexp.MustCompile(`^[0-9](_?[0-9])*$`)
	hexadecimal := regexp.MustCompile(`^0x[0-9a-fA-F](_?[0-9a-fA-F])*$`)
	end := new(big.Int).Lsh(big.NewInt(1), 40)
	parts := []string{"0", "9", "a", "F", "g", "x", "X", "_", "-", "0x", "\xff", "ö", "9999999", "FFFFFFFF"}
	combine(parts, 5, func(s string) {
		want, e := uint64(0), api.ErrNumber
		plain, base := strings.ReplaceAll(s, "_", ""), 10
		if hexadecimal.MatchString(s) {
			plain, base = plain[2:], 16
		}
		if base == 16 || decimal.MatchString(s) {
			v, ok := new(big.Int).SetString(plain, base)
			if !ok {
				t.Fatalf("the pattern takes %q, which is no number", s)
			}
			if v.Cmp(end) < 0 {
				want, e = v.Uint64(), api.OK
			}
		}
		if got, gotE := words.Number(s); got != want || gotE != e {
			t.Errorf("Number(%q) = %d, %d, not %d, %d", s, got, gotE, want, e)
		}
	})
}

// P104: texts of numbers, and back.
func TestHex(t *testing.T) {
	texts := map[uint64]string{
		0: "0x0", 1: "0x1", 9: "0x9", 10: "0xa", 15: "0xf", 16: "0x10", 49152: "0xc000", 0xabcdef: "0xabcdef",
		1<<40 - 1: "0xffffffffff", 1 << 40: "0x10000000000", 1 << 63: "0x8000000000000000", math.MaxUint64: "0xffffffffffffffff",
	}
	for v, s := range texts {
		if got := words.Hex(v); got != s {
			t.Errorf("Hex(%d) = %q, not %q", v, got, s)
		}
	}
}

func TestHexAndBack(t *testing.T) {
	for shift := range 64 {
		for _, v := range []uint64{1<<shift - 1, 1 << shift, 1<<shift + 1, 0x123456789abcdef0 >> shift} {
			want, e := v, api.OK
			if v >= 1<<40 {
				want, e = 0, api.ErrNumber
			}
			if got, gotE := words.Number(words.Hex(v)); got != want || gotE != e {
				t.Errorf("Number(Hex(%d)) = %d, %d", v, got, gotE)
			}
		}
	}
}

// P105: the four sizes, and what is none.
func TestSize(t *testing.T) {
	sizes := map[string]int{"4k": api.Small, "64k": api.Large, "1m": api.Section, "16m": api.Super}
	for s, size := range sizes {
		if got, e := words.Size(s); got != size || e != api.OK {
			t.Errorf("Size(%q) = %d, %d", s, got, e)
		}
		if got := words.SizeText(size); got != s {
			t.Errorf("SizeText(%d) = %q", size, got)
		}
	}
	for _, s := range []string{"", "4", "k", "4K", "64K", "1M", "16M", " 4k", "4k ", "4kb", "04k", "1", "2", "0x1", "4m", "1k", "4k\xff", "4k64k", "\xff"} {
		if got, e := words.Size(s); got != 0 || e != api.ErrWord {
			t.Errorf("Size(%q) = %d, %d, not ErrWord", s, got, e)
		}
	}
	for _, size := range []int{0, 5, 6, -1, -4, 1 << 32, 1<<32 + 1, math.MaxInt, math.MinInt} {
		if got := words.SizeText(size); got != "" {
			t.Errorf("SizeText(%d) = %q", size, got)
		}
	}
}

// P106: all eight rights, there and back.
func TestRights(t *testing.T) {
	texts := map[string]api.Rights{
		"---": {}, "r--": {Read: true}, "-w-": {Write: true}, "--x": {Exec: true},
		"rw-": {Read: true, Write: true}, "r-x": {Read: true, Exec: true}, "-wx": {Write: true, Exec: true},
		"rwx": {Read: true, Write: true, Exec: true},
	}
	for s, r := range texts {
		if got, e := words.Rights(s); got != r || e != api.OK {
			t.Errorf("Rights(%q) = %v, %d", s, got, e)
		}
		if got := words.RightsText(r); got != s {
			t.Errorf("RightsText(%v) = %q, not %q", r, got, s)
		}
	}
	combine([]string{"r", "w", "x", "-", "R", "W", "X", " ", "_", "\x00", "\xff", "ö"}, 4, func(s string) {
		if _, ok := texts[s]; ok {
			return
		}
		if got, e := words.Rights(s); got != (api.Rights{}) || e != api.ErrWord {
			t.Errorf("Rights(%q) = %v, %d, not ErrWord", s, got, e)
		}
	})
}

// P107: the words of lines.
func TestFields(t *testing.T) {
	cases := []struct {
		line   string
		fields []string
	}{
		{"", nil}, {" ", nil}, {"\t\r \u00a0\u2003\u3000", nil}, {"#", nil}, {"# a b", nil}, {"  # a", nil}, {"##", nil},
		{"a", []string{"a"}}, {" a ", []string{"a"}}, {"a#b c", []string{"a"}}, {"a b#", []string{"a", "b"}},
		{" map  ada\t0x1000 # rest", []string{"map", "ada", "0x1000"}},
		{"a # b # c", []string{"a"}},
		{"a\tb\rc d\u00a0e\u2003f\u3000g", []string{"a", "b", "c", "d", "e", "f", "g"}},
		{"\u3000a\u2003\u00a0b\r", []string{"a", "b"}},
		{"böb Ωmega", []string{"böb", "Ωmega"}},
		{"a\nb", []string{"a\nb"}}, {"\n", []string{"\n"}}, {"a\n b", []string{"a\n", "b"}},
		{"a\vb\fc", []string{"a\vb\fc"}}, {"a\u0085b", []string{"a\u0085b"}}, {"a\u1680b\u2002c\u2004d\u2028e\u205ff\ufeffg", []string{"a\u1680b\u2002c\u2004d\u2028e\u205ff\ufeffg"}},
		{"\xff x", []string{"\xff", "x"}}, {"a\xc2 \xa0b", []string{"a\xc2", "\xa0b"}}, {"\xe3\x80 \x80", []string{"\xe3\x80", "\x80"}},
		{"\xa0", []string{"\xa0"}}, {"\xe3\x80\xe3\x80\x80\x80", []string{"\xe3\x80", "\x80"}},
		{"\xe2\x82#\xac", []string{"\xe2\x82"}}, {"\ufffd \xef\xbf", []string{"\ufffd", "\xef\xbf"}},
		{"a a a", []string{"a", "a", "a"}}, {"b a", []string{"b", "a"}}, {"\x00 \x00", []string{"\x00", "\x00"}},
	}
	for _, c := range cases {
		if got := words.Fields(c.line); !slices.Equal(got, c.fields) {
			t.Errorf("Fields(%q) = %q, not %q", c.line, got, c.fields)
		}
	}
}

// slowFields: the words of a line, by its runes as cutRunes cuts them.
func slowFields(line string) []string {
	blanks := []string{"\t", "\r", " ", "\u00a0", "\u2003", "\u3000"}
	word := ""
	var fields []string
	end := func() {
		if word != "" {
			fields = append(fields, word)
		}
		word = ""
	}
	for _, r := range cutRunes(line) {
		if r == "#" {
			break
		}
		if slices.Contains(blanks, r) {
			end()
		} else {
			word += r
		}
	}
	end()
	return fields
}

// P107, P108: short lines of all kinds; their fields, joined, have the same fields.
func TestFieldsOfShortLines(t *testing.T) {
	parts := []string{"a", "ö", "#", " ", "\t", "\r", "\n", "\u00a0", "\u2003", "\u3000", "\xc2", "\xa0", "\xe3", "\x80", "\xff", "\ufffd"}
	combine(parts, 5, func(line string) {
		got, want := words.Fields(line), slowFields(line)
		if !slices.Equal(got, want) {
			t.Errorf("Fields(%q) = %q, not %q", line, got, want)
		}
		if again := words.Fields(strings.Join(got, " ")); !slices.Equal(again, got) {
			t.Errorf("the fields of %q are %q, and joined %q", line, got, again)
		}
	})
}

// P107: each rune there is, between two letters, is a blank, or begins a rest, or belongs to the word.
func TestFieldsOfEachRune(t *testing.T) {
	for r := rune(0); r <= 0x10ffff; r++ {
		if 0xd800 <= r && r <= 0xdfff {
			continue
		}
		line := "a" + string(r) + "b"
		if got, want := words.Fields(line), slowFields(line); !slices.Equal(got, want) {
			t.Errorf("Fields(%q) = %q, not %q", line, got, want)
		}
	}
}

// Rule 4: what Fields hands out is new memory, spare room too.
func TestFieldsAreNewMemory(t *testing.T) {
	for n := range 20 {
		line := strings.Repeat("ada böb ", n)
		first, second := words.Fields(line), words.Fields(line)
		want := slices.Clone(second)
		room := first[:cap(first)]
		for i := range room {
			room[i] = "spoilt"
		}
		_ = append(first, "spoilt")
		if !slices.Equal(second, want) {
			t.Errorf("the fields of %q were changed by writes into a list told earlier", line)
		}
		if got := words.Fields(line); !slices.Equal(got, want) {
			t.Errorf("Fields(%q) = %q behind writes into a list told earlier", line, got)
		}
		if line != strings.Repeat("ada böb ", n) {
			t.Errorf("the line was changed: %q", line)
		}
	}
}

// told: all that the layer tells of one text.
type told struct {
	width    int
	name     bool
	number   uint64
	size     int
	rights   api.Rights
	errors   [3]api.Errno
	fields   string
	fieldsNo int
}

func tell(s string) told {
	var a told
	a.width, a.name = words.Width(s), words.Name(s)
	a.number, a.errors[0] = words.Number(s)
	a.size, a.errors[1] = words.Size(s)
	a.rights, a.errors[2] = words.Rights(s)
	fields := words.Fields(s)
	a.fields, a.fieldsNo = strings.Join(fields, " "), len(fields)
	return a
}

// P108: what is told of a text is told again, wherever its bytes lie and whatever was asked meanwhile.
func TestBytesAlone(t *testing.T) {
	texts := []string{"", "ada", "böb", "0x1F", "1_000", "64k", "r-x", "a b # c", "\xe2\x82", "a\xffb", "Ωmega_9", "\u3000", "1099511627776"}
	var first []told
	for _, s := range texts {
		first = append(first, tell(s))
	}
	for i, s := range slices.Backward(texts) {
		inside := ("\xe2" + s + "\x82\xac_9")[1 : 1+len(s)]
		for _, same := range []string{s, strings.Clone(s), string([]byte(s)), inside} {
			if got := tell(same); got != first[i] {
				t.Errorf("of %q is told %v, then %v", s, first[i], got)
			}
		}
	}
}
