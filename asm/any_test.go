package asm_test

import (
	"bytes"
	"fmt"
	"maps"
	"math/rand"
	"reflect"
	"slices"
	"strings"
	"testing"

	"atlas/api"
	"atlas/asm"
	"atlas/isa"
)

// world: what comes at random.
type world struct{ *rand.Rand }

func newRand(seed int64) *rand.Rand { return rand.New(rand.NewSource(seed)) }

func pick[T any](w world, l ...T) T { return l[w.Intn(len(l))] }

// chance: true once in n.
func (w world) chance(n int) bool { return w.Intn(n) == 0 }

// names: of instructions, in one order.
var names = slices.Sorted(maps.Keys(ops))

// labels: that a program may have.
var labels = []string{"start", "a", "loop", "x", "end_1", "Ωmega", "sixteen_runes_xx", "r16", "SP", "R0", "add", "lsl", "cpsr_f"}

// odd: pieces of text that may stand where they should not.
var odd = strings.Split(`r0|sp|pc|r13|R1|mov|adds|push|.word|.|._|_|_a|a.b|seventeen_runes_x|nothing|lsl|ror|rrx|cpsr|spsr_x|p15|c3|c16|,|:|#|[|]|{|}|!|+|-|0|1|32|255|256|4095|4096|0x_1|0x|1__2|9a|4294967295|4294967296|0xffff_ffff|0x1_0000_0000|'a'|'\n'|'\x7f'|'\''|''|'''|'ab'|'\x'|'\q'|'|"ab"|""|"|"\x4|'"'|"'\""|é|×|$|&|(|=|@|;| x|`+"'\xff'|\xff|\"\xff\"|'\ufffd'|\u00a0|\u2003|\n|\x00|'\U0010ffff'", "|")

// number: a text for a number that is not below 0.
func (w world) number(n int64) string {
	switch {
	case n < 256 && w.chance(12):
		return fmt.Sprintf(`'\x%02x'`, n)
	case n > 31 && n < 0x110000 && n != '\'' && n != '\\' && (n < 0xD800 || n > 0xDFFF) && w.chance(12):
		return "'" + string(rune(n)) + "'"
	case w.chance(3):
		return fmt.Sprintf(pick(w, "%#x", "0x%X", "0x00%x", "0x0_%x"), n)
	}
	return fmt.Sprintf(pick(w, "%d", "%d", "0%d", "0_%d"), n)
}

// signed: texts for a number.
func (w world) signed(n int64) []string {
	if n < 0 || n == 0 && w.chance(4) {
		return []string{"-", w.number(-n)}
	}
	return []string{w.number(n)}
}

// value: texts for one of a kind, near what it can be; now and then of a name.
func (w world) value(kind string, at uint32) []string {
	if w.chance(12) {
		return pick(w, []string{pick(w, labels...)}, []string{pick(w, labels...), pick(w, "+", "-"), w.number(w.Int63n(pick[int64](w, 5, 300, 1<<32)))})
	}
	lo, hi := limits[kind][0], limits[kind][1]
	n := lo + w.Int63n(hi-lo+1)
	if w.chance(4) {
		n = pick(w, lo-1, lo, lo+1, 0, hi-1, hi, hi+1)
	}
	switch kind {
	case "const":
		if !w.chance(3) {
			n = int64(word12(uint32(w.Intn(4096))))
		}
	case "turn", "bytes":
		if !w.chance(4) {
			n = w.Int63n(16) * 2
		}
	case "branch", "load", "adr":
		if !w.chance(4) {
			far := pick(w, w.Int63n(1<<13)-1<<12, 4*(w.Int63n(1<<24)-1<<23), pick[int64](w, 0, -4096, -4095, 4095, 4096, -1<<25, -1<<25-4, 1<<25-4, 1<<25), int64(word12(uint32(w.Intn(4096)))))
			n = int64(at + 8 + uint32(far))
		}
	}
	return w.signed(min(max(n, -1<<32+1), 1<<32-1))
}

// operands: texts for a row.
func (w world) operands(r row, at uint32) []string {
	var all []string
	for _, word := range strings.Fields(r.form) {
		if kind, ok := strings.CutPrefix(word, "V:"); ok {
			all = append(all, w.value(kind, at)...)
		} else if strings.HasPrefix(word, "cN:") {
			all = append(all, fmt.Sprintf("c%d", w.Intn(16)))
		} else if word == "LIST" {
			all = append(all, w.list()...)
		} else if word[0] == 'R' {
			all = append(all, pick(w, registers...))
		} else {
			all = append(all, word)
		}
	}
	return all
}

// list: of registers that mostly rise.
func (w world) list() []string {
	all := []string{"{"}
	for reg := w.Intn(8); ; {
		all = append(all, registers[reg])
		if last := reg + w.Intn(5) - w.Intn(2); w.chance(3) && last >= 0 && last < 16 {
			all = append(all, "-", registers[last])
			reg = last
		}
		if reg += w.Intn(20); reg > 15 {
			return append(all, "}")
		}
		all = append(all, ",")
	}
}

// mnemonic: a name with s and a condition.
func (w world) mnemonic(name string) string {
	if slices.Contains(withS, name) && w.chance(3) {
		name += "s"
	}
	if w.chance(2) {
		return name
	}
	return name + strings.TrimSpace(pick(w, conds...))
}

// instruction: texts of one.
func (w world) instruction(at uint32) []string {
	name := pick(w, names...)
	return append([]string{w.mnemonic(name)}, w.operands(pick(w, ways[name]...).row, at)...)
}

// spoilt: with something wrong in it, now and then.
func (w world) spoilt(all []string, once int) []string {
	for w.chance(once) && len(all) > 0 {
		at := w.Intn(len(all))
		switch w.Intn(4) {
		case 0:
			all = slices.Delete(all, at, at+1)
		case 1:
			all = slices.Insert(all, at+w.Intn(2), pick(w, odd...))
		case 2:
			all = slices.Insert(all, at, pick(w, all...))
		case 3:
			all[at] = pick(w, odd...)
		}
	}
	return all
}

// joined: texts as a line, with blanks that must be, and some that need not.
func (w world) joined(all []string) string {
	wordly := func(c byte) bool { return strings.IndexByte(",:#[]{}!+-'\"", c) < 0 }
	line := strings.Repeat(" ", w.Intn(2))
	for n, text := range all {
		if text == "" {
			continue
		}
		if n > 0 && wordly(text[0]) && line != "" && wordly(line[len(line)-1]) || w.chance(6) {
			line += pick(w, " ", " ", "  ", "\t", "\r")
		}
		line += text
	}
	if w.chance(20) {
		line += pick(w, " @ rest", ";'", "@\"")
	}
	return line
}

func (w world) at() uint32 {
	return pick(w, 0, 0x8000, w.Uint32()&^3, w.Uint32()&^3, w.Uint32(), 0xFFFFFFF8, 0xFFFFFFFC)
}

// checkLine: of a line the instruction, or the error, that the model tells.
func checkLine(t *testing.T, line string, at uint32) (api.Ins, api.Errno) {
	t.Helper()
	i, err := asm.Line(line, at)
	e, n := asm.Code(err)
	want, wantErr := lined(line, at)
	if i != want || e != wantErr || n != 0 || (err == nil) != (e == api.OK) {
		t.Fatalf("Line(%q, %#x) = %+v, %d at %d\nwant %+v, %d", line, at, i, e, n, want, wantErr)
	}
	return i, e
}

// P2102, P2104: any line. P2106, P8: what its instruction is told as is read as that again.
func TestAnyLine(t *testing.T) {
	t.Parallel()
	w := world{newRand(21)}
	errs, kinds := map[api.Errno]int{}, map[int]int{}
	for range 60000 {
		at := w.at()
		line := w.joined(w.spoilt(w.instruction(at), 4))
		i, e := checkLine(t, line, at)
		errs[e]++
		if e == api.OK {
			kinds[i.Op]++
			checkText(t, i, at)
		}
	}
	for _, e := range []api.Errno{api.OK, api.ErrSyntax, api.ErrMnemonic, api.ErrOperand, api.ErrLabel, api.ErrReach, api.ErrIns} {
		if errs[e] < 500 {
			t.Errorf("error %d came %d times only", e, errs[e])
		}
	}
	for op := 1; op <= api.OpLast; op++ {
		if kinds[op] < 100 {
			t.Errorf("instruction %d came %d times only", op, kinds[op])
		}
	}
}

// checkText: P2101 and P2106, of an instruction.
func checkText(t *testing.T, i api.Ins, at uint32) {
	t.Helper()
	s, e := asm.Text(i, at)
	want, wantErr := told(i, at)
	if s != want || e != wantErr {
		t.Fatalf("Text(%+v, %#x) = %q, %d, want %q, %d", i, at, s, e, want, wantErr)
	}
	if e != api.OK {
		return
	}
	if back, err := asm.Line(s, at); err != nil || back != i {
		t.Fatalf("Line(%q, %#x) = %+v, %v, want %+v", s, at, back, err, i)
	}
}

// patterns: of the words of chapter 19; a letter is a bit at random.
var patterns = strings.Fields(`
cccc001oooosnnnnddddiiiiiiiiiiii cccc000oooosnnnnddddkkkkktt0mmmm cccc000oooosnnnnddddrrrr0tt1mmmm
cccc00110oo1nnnn0000iiiiiiiiiiii cccc00010oo1nnnn0000kkkkktt0mmmm cccc00010oo1nnnn0000rrrr0tt1mmmm
cccc00111o1s0000ddddiiiiiiiiiiii cccc00011o1s0000ddddkkkkktt0mmmm cccc00011o1s0000ddddrrrr0tt1mmmm
cccc00110o00iiiiddddiiiiiiiiiiii cccc0000000sdddd0000rrrr1001mmmm cccc0000001sddddaaaarrrr1001mmmm cccc00001oosddddaaaarrrr1001mmmm
cccc000101101111dddd11110001mmmm cccc011010111111dddd11110011mmmm cccc01101o1o1111ddddkk000111mmmm
cccc010puowonnnnddddiiiiiiiiiiii cccc011puowonnnnddddkkkkktt0mmmm
cccc000pu1wonnnnddddiiii1oo1iiii cccc000pu0wonnnndddd00001oo1mmmm cccc100pu0wonnnnllllllllllllllll
cccc1010iiiiiiiiiiiiiiiiiiiiiiii cccc1011iiiiiiiiiiiiiiiiiiiiiiii cccc000100101111111111110001mmmm cccc000100101111111111110011mmmm
cccc1111iiiiiiiiiiiiiiiiiiiiiiii 111000010010iiiiiiiiiiii0111iiii
cccc00010s001111dddd000000000000 cccc00010s10kkkk111100000000mmmm cccc00110s10kkkk1111iiiiiiiiiiii
cccc1110yyy0xxxxdddd1111vvv1zzzz cccc1110yyy1xxxxdddd1111vvv1zzzz
cccc0011001000001111000000000000 cccc0011001000001111000000000011
llllllllllllllllllllllllllllllll
`)

// word: of some row, with all bits of a field alike now and then.
func (w world) word() (word uint32) {
	all := map[rune]int{}
	for _, bit := range pick(w, patterns...) {
		if all[bit] == 0 {
			all[bit] = 1 + w.Intn(6)
		}
		word <<= 1
		if bit == '1' || bit != '0' && (all[bit] == 1 || all[bit] > 2 && w.chance(2)) {
			word++
		}
	}
	return word
}

// P2101, P2105, P2106: any word, at any address.
func TestAnyText(t *testing.T) {
	t.Parallel()
	w := world{newRand(22)}
	kinds := map[int]int{}
	for range 100000 {
		word, at := w.word(), w.at()
		i, ok := isa.Decode(word)
		want := fmt.Sprintf(".word %#x", word)
		if ok {
			kinds[i.Op]++
			checkText(t, i, at)
			want, _ = told(i, at)
		} else {
			checkText(t, i, at)
		}
		if l := asm.Disassemble(little(int64(word), 4), at); !slices.Equal(l, []string{want}) {
			t.Fatalf("Disassemble(%#x, %#x) = %q, want %q", word, at, l, want)
		}
	}
	for op := 1; op <= api.OpLast; op++ {
		if kinds[op] < 100 {
			t.Errorf("instruction %d came %d times only", op, kinds[op])
		}
	}
}

// P2101: instructions that are not right, by one field of one that is.
func TestAnyWrongText(t *testing.T) {
	w := world{newRand(23)}
	wrong := 0
	for range 50000 {
		i, _ := isa.Decode(w.word())
		v := reflect.ValueOf(&i).Elem()
		switch f := v.Field(w.Intn(v.NumField())); f.Kind() {
		case reflect.Bool:
			f.SetBool(!f.Bool())
		case reflect.Int:
			f.SetInt(pick[int64](w, -1<<63, -1, 0, 1, 2, 3, 4, 14, 15, 16, 17, 31, 32, 53, 1<<63-1))
		case reflect.Uint32:
			f.SetUint(uint64(pick[uint32](w, 0, 1, 4095, 4096, 65535, 65536, 1<<24-1, 1<<24, 1<<32-1, w.Uint32())))
		case reflect.Uint16:
			f.SetUint(uint64(w.Intn(1 << 16)))
		case reflect.Struct:
			i.Tuple.CRm = pick(w, -1, 0, 15, 16)
		}
		if !isa.Right(i) {
			wrong++
		}
		checkText(t, i, w.at())
	}
	if wrong < 10000 {
		t.Errorf("%d only", wrong)
	}
}

// directive: texts of one.
func (w world) directive() []string {
	some := func(kind string) []string {
		all := w.value(kind, 0x8000)
		for w.chance(2) {
			all = append(append(all, ","), w.value(kind, 0x8000)...)
		}
		return all
	}
	switch w.Intn(10) {
	case 0, 1:
		return append([]string{".word"}, some(pick(w, "branch", "const", "adr"))...)
	case 2:
		return append([]string{".half"}, some(pick(w, "half", "short"))...)
	case 3:
		return append([]string{".byte"}, some(pick(w, "byte", "turn"))...)
	case 4:
		return []string{pick(w, ".ascii", ".asciz"), pick(w, `"abc"`, `""`, `"abcd"`, `"\n\t\0\\\'\"\xFe"`, "\"Ω\xff '@;\"", `"@"`)}
	case 5:
		size := pick[int64](w, 0, 1, 4, 8, 4095, 4096, 5000, w.Int63n(50))
		if w.chance(16) {
			size = pick(w, 1<<24-4*w.Int63n(9), 1<<24, 1<<24+1)
		}
		return append([]string{".space", w.number(size)}, pick(w, nil, []string{",", w.number(pick[int64](w, 0, 7, 255, 256))})...)
	case 6, 7:
		return []string{".align", w.number(pick[int64](w, 1, 2, 4, 4, 4, 8, 64, 4096, 0, 3, 12, 8192, w.Int63n(5000)))}
	case 8:
		return append([]string{".equ", pick(w, labels...), ","}, w.signed(pick[int64](w, 0, 1, 4, -4, 255, -255, 0x8000, 1<<32-1, -1<<32+1))...)
	}
	return []string{pick(w, ".text", ".rodata", ".data")}
}

// program: a text of some lines; clean: with few mistakes.
func (w world) program(clean bool) string {
	once, names := pick(w, 8, 30), 20
	if clean {
		once, names = 1000, 4
	}
	var lines []string
	free := slices.Clone(labels)
	w.Shuffle(len(free), func(a, b int) { free[a], free[b] = free[b], free[a] })
	for n := range 2 + w.Intn(14) {
		var all []string
		for len(free) > 0 && w.chance(names/2) {
			all = append(all, free[0], ":")
			free = free[1:]
		}
		switch {
		case w.chance(3):
			all = append(all, w.directive()...)
		case w.chance(12):
		default:
			all = append(all, w.instruction(0x8000+uint32(4*n))...)
		}
		lines = append(lines, w.joined(w.spoilt(all, once)))
		if clean {
			lines = append(lines, pick(w, ".align 4", ".align 4", ""))
		}
	}
	return strings.Join(lines, "\n") + pick(w, "", "\n", "\r\n")
}

// checkProgram: of a text the image and the list, or the error, that the model tells.
func checkProgram(t *testing.T, text string) (api.Image, []api.Listing, api.Errno) {
	t.Helper()
	image, list, err := asm.Assemble(text)
	e, line := asm.Code(err)
	wantImage, wantList, wantErr, wantLine := assembled(text)
	if e != wantErr || line != wantLine || (err == nil) != (e == api.OK) {
		t.Fatalf("Assemble(%q): %d at %d, want %d at %d", text, e, line, wantErr, wantLine)
	}
	if !sameImage(image, wantImage) {
		t.Fatalf("Assemble(%q): %+v, want %+v", text, image, wantImage)
	}
	same := func(a, b api.Listing) bool {
		return a.Line == b.Line && a.Section == b.Section && a.VA == b.VA && bytes.Equal(a.Data, b.Data)
	}
	if !slices.EqualFunc(list, wantList, same) {
		t.Fatalf("Assemble(%q): %+v, want %+v", text, list, wantList)
	}
	return image, list, e
}

func sameImage(a, b api.Image) bool {
	same := func(a, b api.Segment) bool {
		return a.VA == b.VA && a.Size == b.Size && a.Rights == b.Rights && bytes.Equal(a.Data, b.Data)
	}
	return a.Entry == b.Entry && slices.Equal(a.Symbols, b.Symbols) && slices.EqualFunc(a.Segments, b.Segments, same)
}

// P2103, P2104: any text.
func TestAnyProgram(t *testing.T) {
	t.Parallel()
	w := world{newRand(24)}
	errs := map[api.Errno]int{}
	for n := range 20000 {
		text := w.program(n%2 == 0)
		_, _, e := checkProgram(t, text)
		errs[e]++
	}
	for _, e := range []api.Errno{api.OK, api.ErrSyntax, api.ErrMnemonic, api.ErrOperand, api.ErrDirective, api.ErrTwice, api.ErrLabel, api.ErrReach, api.ErrIns, api.ErrStart, api.ErrSize} {
		if errs[e] < 50 {
			t.Errorf("error %d came %d times only", e, errs[e])
		}
	}
}
