package asm_test

import (
	"fmt"
	"slices"
	"strings"
	"testing"

	"atlas/api"
	"atlas/asm"
)

// The rights of the sections.
var (
	textRights   = api.Rights{Read: true, Exec: true}
	rodataRights = api.Rights{Read: true}
	dataRights   = api.Rights{Read: true, Write: true}
)

// nopBytes: of a nop.
const nopBytes = "\x00\xf0\x20\xe3"

// segment: with those bytes.
func segment(va uint32, rights api.Rights, data string) api.Segment {
	return api.Segment{VA: va, Size: uint32(len(data)), Rights: rights, Data: []byte(data)}
}

// checkImage: of a text the segments, and that the model tells the same of all.
func checkImage(t *testing.T, text string, want ...api.Segment) (api.Image, []api.Listing) {
	t.Helper()
	image, list, e := checkProgram(t, text)
	if e != api.OK || !sameImage(api.Image{Segments: image.Segments}, api.Image{Segments: want}) {
		t.Errorf("Assemble(%.200q): %d, %+v, want %+v", text, e, image.Segments, want)
	}
	return image, list
}

// checkRefused: of a text the error and its line, and that the model tells the same.
func checkRefused(t *testing.T, want api.Errno, line int, text string) {
	t.Helper()
	image, list, err := asm.Assemble(text)
	e, n := asm.Code(err)
	if e != want || n != line || !sameImage(image, api.Image{}) || len(list) != 0 {
		t.Errorf("Assemble(%.200q): %d at %d, want %d at %d", text, e, n, want, line)
	}
	if _, _, e, n := assembled(text); e != want || n != line {
		t.Errorf("model: %.200q: %d at %d, want %d at %d", text, e, n, want, line)
	}
}

// The chapter's examples 6 and 7.
func TestProgramExamples(t *testing.T) {
	image, list := checkImage(t, "start: mov r0, #1\n svc #0\n.data\nx: .word start, x+4\n",
		segment(0x8000, textRights, "\x01\x00\xa0\xe3\x00\x00\x00\xef"), segment(0x9000, dataRights, "\x00\x80\x00\x00\x04\x90\x00\x00"))
	if image.Entry != 0x8000 || !slices.Equal(image.Symbols, []api.Symbol{{Name: "start", Value: 0x8000}, {Name: "x", Value: 0x9000}}) || len(list) != 3 {
		t.Error(image, list)
	}
	checkRefused(t, api.ErrLabel, 1, "b x")
	checkRefused(t, api.ErrTwice, 2, "a:\na:")
	checkRefused(t, api.ErrReach, 2, ".byte 1\nnop")
	checkRefused(t, api.ErrStart, 0, "")
}

// P2103: sections in turns, each from its place on; the list in the order of the lines.
func TestSections(t *testing.T) {
	image, list := checkImage(t, ".data\n.byte 1\n.text\nnop\n.rodata\n.byte 2\n.data\nd: .byte 3\n.rodata\nr: .byte 4\n.text\nt: nop\n.data\n.space 0\n.data\n.byte 5",
		segment(0x8000, textRights, nopBytes+nopBytes), segment(0x9000, rodataRights, "\x02\x04"), segment(0xA000, dataRights, "\x01\x03\x05"))
	if !slices.Equal(image.Symbols, []api.Symbol{{Name: "d", Value: 0xA001}, {Name: "r", Value: 0x9001}, {Name: "t", Value: 0x8004}}) {
		t.Error(image.Symbols)
	}
	var said []string
	for _, l := range list {
		said = append(said, fmt.Sprintf("%d %d %x %x", l.Line, l.Section, l.VA, l.Data))
	}
	if want := []string{"2 2 a000 01", "4 0 8000 00f020e3", "6 1 9000 02", "8 2 a001 03", "10 1 9001 04", "12 0 8004 00f020e3", "16 2 a002 05"}; !slices.Equal(said, want) {
		t.Errorf("%q", said)
	}
}

// P2103: where the sections begin: behind the last one that has bytes.
func TestBases(t *testing.T) {
	nop := segment(0x8000, textRights, nopBytes)
	bytes := func(n int) string { return strings.Repeat("\x00", n) }
	checkImage(t, "nop\n.data\n.byte 7", nop, segment(0x9000, dataRights, "\x07"))
	checkImage(t, "nop\n.rodata\n.byte 7", nop, segment(0x9000, rodataRights, "\x07"))
	checkImage(t, "nop\n.rodata\n.space 4096\n.data\n.byte 7", nop, segment(0x9000, rodataRights, bytes(4096)), segment(0xA000, dataRights, "\x07"))
	checkImage(t, "nop\n.rodata\n.space 4097\n.data\n.byte 7", nop, segment(0x9000, rodataRights, bytes(4097)), segment(0xB000, dataRights, "\x07"))
	checkImage(t, "nop\n.space 4092\n.data\n.byte 7", segment(0x8000, textRights, nopBytes+bytes(4092)), segment(0x9000, dataRights, "\x07"))
	checkImage(t, "nop\n.space 4093\n.data\n.byte 7", segment(0x8000, textRights, nopBytes+bytes(4093)), segment(0xA000, dataRights, "\x07"))
	image, _ := checkImage(t, "nop\n.rodata\nr:\n.data\nd:", nop)
	if !slices.Equal(image.Symbols, []api.Symbol{{Name: "r", Value: 0x9000}, {Name: "d", Value: 0x9000}}) {
		t.Error(image.Symbols)
	}
	for _, text := range []string{".rodata\n.half r-0x8000-1+1\nr:", ".data\n.word x\n.rodata\nx:\n.byte 1"} {
		checkProgram(t, text)
	}
	// Without text the others begin where it would, as far as anybody sees: an address that is in reach, or is not.
	checkRefused(t, api.ErrStart, 0, ".rodata\nr: .half r\n.byte 1\n.data\nd: .half d")
	checkRefused(t, api.ErrReach, 3, ".rodata\n.space 32768\nd: .half d\n")
	checkRefused(t, api.ErrStart, 0, ".rodata\n.space 32766\nd: .half d\n")
	checkRefused(t, api.ErrReach, 4, ".rodata\n.space 28673\n.data\nd: .half d")
	checkRefused(t, api.ErrStart, 0, ".rodata\n.space 28672\n.data\nd: .half d")
}

// P2103: labels ahead and behind, several in a line, and what they are told as.
func TestLabels(t *testing.T) {
	image, _ := checkImage(t, "a: b c\nc: d : e: b a\n.data\nf:\n.word a, c, d, e, f, g, g-1, g+'a'\ng:\nh: .text\ni:",
		segment(0x8000, textRights, "\xff\xff\xff\xea\xfd\xff\xff\xea"),
		segment(0x9000, dataRights, "\x00\x80\x00\x00\x04\x80\x00\x00\x04\x80\x00\x00\x04\x80\x00\x00\x00\x90\x00\x00\x20\x90\x00\x00\x1f\x90\x00\x00\x81\x90\x00\x00"))
	want := []api.Symbol{{Name: "a", Value: 0x8000}, {Name: "c", Value: 0x8004}, {Name: "d", Value: 0x8004}, {Name: "e", Value: 0x8004}, {Name: "f", Value: 0x9000}, {Name: "g", Value: 0x9020}, {Name: "h", Value: 0x9020}, {Name: "i", Value: 0x8008}}
	if !slices.Equal(image.Symbols, want) {
		t.Error(image.Symbols)
	}
	image, _ = checkImage(t, "mov: add: R0: SP: r16: Ωmega: sixteen_runes_xx: start:nop:nop@x:\n", segment(0x8000, textRights, nopBytes))
	if len(image.Symbols) != 9 || image.Symbols[7].Name != "start" || image.Symbols[8].Name != "nop" || image.Symbols[5].Name != "Ωmega" {
		t.Error(image.Symbols)
	}
	for _, line := range []string{"r0: nop", "sp:", "pc : nop", "r13:", ".x: nop", "_x: nop", ".word: 1", "seventeen_runes_x: nop", ".: nop", "a: r1: nop", "a: 5: nop", "5: nop", "5", ": nop", "::", "a: :", "a::", "'a': nop", "\"a\": nop", "a: \"b\"", "a: #", "# 1", "-a:", "[r0]", "a: 'b'", "a b: c: $"} {
		checkRefused(t, api.ErrSyntax, 2, "nop\n"+line+"\n$\n")
	}
	checkRefused(t, api.ErrMnemonic, 1, "a b: nop")
	checkRefused(t, api.ErrOperand, 1, "a: nop b: nop")
	checkRefused(t, api.ErrOperand, 1, "mov r0: r1")
	checkRefused(t, api.ErrTwice, 1, "a: a: nop")
	checkRefused(t, api.ErrTwice, 2, ".equ a, 1\na:")
	checkRefused(t, api.ErrTwice, 2, "a:\n.equ a, 1")
	checkRefused(t, api.ErrTwice, 1, "a: .equ a, 1")
	checkRefused(t, api.ErrTwice, 2, ".equ a, 1\n.equ a, 1")
	checkRefused(t, api.ErrTwice, 3, "a:\n.data\na:")
	checkImage(t, "a: nop\nA: Ä: ä: nop\n", segment(0x8000, textRights, nopBytes+nopBytes))
}

// P2103: .word, .half, .byte, at both ends of their ranges.
func TestValues(t *testing.T) {
	data := func(directive, bytes string) {
		t.Helper()
		checkImage(t, "nop\n.data\n.equ one, 1\n.equ low, -1\n.equ most, 4294967295\n.equ least, -4294967295\n"+directive, segment(0x8000, textRights, nopBytes), segment(0x9000, dataRights, bytes))
	}
	data(".word -2147483648, 4294967295, 0, 0x12345678, 'a', -'a', '\\n', most", "\x00\x00\x00\x80\xff\xff\xff\xff\x00\x00\x00\x00\x78\x56\x34\x12a\x00\x00\x00\x9f\xff\xff\xff\x0a\x00\x00\x00\xff\xff\xff\xff")
	data(".word most-4294967295, least+4294967295, least + 0x80000000, low", "\x00\x00\x00\x00\x00\x00\x00\x00\x01\x00\x00\x80\xff\xff\xff\xff")
	data(".half -32768, 65535, -1, 0x1234, one, low-'\\x01'", "\x00\x80\xff\xff\xff\xff\x34\x12\x01\x00\xfe\xff")
	data(".byte -128, 255, -1, 0x12, one+254, low-127, one - 1", "\x80\xff\xff\x12\xff\x80\x00")
	for _, values := range []string{".word most+1", ".word least", ".word -2147483649", ".word 0, most+'\\x01'", ".word least+2147483646", ".half 65536", ".half -32769", ".half 0, 65536, 0", ".half low-32768", ".byte 256", ".byte -129", ".byte one+255", ".byte 0, 0, -129", ".byte 'Ω'", ".word -0xffffffff"} {
		checkRefused(t, api.ErrReach, 6, ".equ one, 1\n.equ low, -1\n.equ most, 4294967295\n.equ least, -4294967295\nnop\n"+values)
	}
	for _, name := range []string{".word", ".half", ".byte"} {
		for _, values := range []string{"", "1,", ",1", "1 2", "1,,2", "r0", "#1", "\"a\"", "1+1", "+1", "--1", "-a", "a+b", "a+-1", "a+", "[1]", "{1}", "_a", ".a", "seventeen_runes_x", "1, r0", "a 1", "1:", "sp+1", "-", "!"} {
			checkRefused(t, api.ErrDirective, 2, "nop\n"+name+" "+values)
		}
		checkRefused(t, api.ErrMnemonic, 2, "nop\n"+strings.ToUpper(name)+" 1")
		checkRefused(t, api.ErrLabel, 2, "nop\n"+name+" nothing")
		checkRefused(t, api.ErrLabel, 2, "nop\n"+name+" 4294967295, -4294967295, nothing+1, -4294967295")
	}
}

// P2103: .ascii, .asciz.
func TestStrings(t *testing.T) {
	checkImage(t, "nop\n.ascii \"a\"\n.asciz \"bc\"\n.ascii \"\"\n.asciz \"\"\n.rodata\n.ascii \"\\n\\t\\0\\\\\\'\\\"\\x41\\xfF\"\n.ascii \"@;'# Ω\xff\xe2\x82 \t\r\"",
		segment(0x8000, textRights, nopBytes+"abc\x00\x00"), segment(0x9000, rodataRights, "\n\t\x00\\'\"A\xff@;'# Ω\xff\xe2\x82 \t\r"))
	_, list := checkImage(t, "nop\n.ascii \"\"\n.asciz \"\"", segment(0x8000, textRights, nopBytes+"\x00"))
	if len(list) != 2 || list[1].Line != 3 {
		t.Error(list)
	}
	for _, name := range []string{".ascii", ".asciz"} {
		for _, rest := range []string{"", "a", "'a'", "1", "\"a\", \"b\"", "\"a\" \"b\"", "\"a\",", "#\"a\"", "\"a\", 0", "-\"a\""} {
			checkRefused(t, api.ErrDirective, 2, "nop\n"+name+" "+rest)
		}
		for _, rest := range []string{"\"", "\"a", "\"\\q\"", "\"\\x1\"", "\"a\\\"", "\"\nb\""} {
			checkRefused(t, api.ErrSyntax, 2, "nop\n"+name+" "+rest)
		}
	}
}

// P2103: .space, .align.
func TestSpaceAndAlign(t *testing.T) {
	checkImage(t, "nop\n.space 2\n.space 3, 255\n.space '\\x01', 'a'\n.space 0\n.space 0, 9\n.align 1\n.align 4\n.align 4\nnop\n.align 16\n.byte 1",
		segment(0x8000, textRights, nopBytes+"\x00\x00\xff\xff\xffa\x00\x00"+nopBytes+"\x01"))
	checkImage(t, "nop\n.align 4096\nnop\n.data\n.align 4096\n.byte 1\n.align 2\n.byte 2\n.align 8", segment(0x8000, textRights, nopBytes+strings.Repeat("\x00", 4092)+nopBytes), segment(0xA000, dataRights, "\x01\x00\x02\x00\x00\x00\x00\x00"))
	_, list := checkImage(t, "nop\n.align 4\n.space 0\n.space 1\n.align 4", segment(0x8000, textRights, nopBytes+"\x00\x00\x00\x00"))
	if len(list) != 3 || list[1].Line != 4 || list[2].Line != 5 || list[2].VA != 0x8005 || len(list[2].Data) != 3 {
		t.Error(list)
	}
	for power := 1; power <= 4096; power *= 2 {
		checkImage(t, fmt.Sprintf("nop\n.data\n.byte 1\n.align %d", power), segment(0x8000, textRights, nopBytes), segment(0x9000, dataRights, "\x01"+strings.Repeat("\x00", power-1)))
	}
	for _, line := range []string{".space", ".space -1", ".space -0", ".space a", ".space 1,", ".space ,1", ".space 1, 256", ".space 1, -1", ".space 1, a", ".space 1, 2, 3", ".space 1 2", ".space 16777217", ".space 4294967295", ".space 0, 256", ".space #1", ".space \"a\"", ".space 1+1", ".space one",
		".align", ".align 0", ".align 3", ".align 6", ".align 4095", ".align 4097", ".align 8192", ".align 0x80000000", ".align -4", ".align one", ".align 4, 4", ".align 4 4", ".align #4", ".align 'c'", ".align 4+4", ".align \"a\"", ".align 4,"} {
		checkRefused(t, api.ErrDirective, 3, "nop\n.equ one, 1\n"+line)
	}
	checkImage(t, "nop\n.byte 1\n.align '@'", segment(0x8000, textRights, nopBytes+"\x01"+strings.Repeat("\x00", 59)))
}

// P2103: .equ of each kind; it is no symbol.
func TestEqu(t *testing.T) {
	image, list := checkImage(t, "movw r0, #n\n.equ n, 5\n.equ c, 'A'\n.equ minus, -5\n.equ code, -'\\x02'\n.equ zero, -0\n.data\n.word n, c, minus, code, n+1, minus-1, zero, Ω\n.equ Ω, 0xffffffff\n.text\nldr r1, [r2, #minus]\nldr r1, [r2, #zero]\nldr r1, [r2, #minus+5]\nadd r1, r2, r3, lsl #n\nmov r1, #c, c-61\nsvc #c",
		segment(0x8000, textRights, "\x05\x00\x00\xe3\x05\x10\x12\xe5\x00\x10\x92\xe5\x00\x10\x92\xe5\x83\x12\x82\xe0\x41\x12\xa0\xe3\x41\x00\x00\xef"),
		segment(0x9000, dataRights, "\x05\x00\x00\x00\x41\x00\x00\x00\xfb\xff\xff\xff\xfe\xff\xff\xff\x06\x00\x00\x00\xfa\xff\xff\xff\x00\x00\x00\x00\xff\xff\xff\xff"))
	if len(image.Symbols) != 0 || len(list) != 8 {
		t.Error(image.Symbols, list)
	}
	for _, rest := range []string{"", "a", "a,", "a 1", ", 1", "1, 1", "a, b", "a, +1", "a, --1", "a, 1+1", "a, 1, 2", "a, 1 2", "r0, 1", "sp, 1", ".a, 1", "_a, 1", "seventeen_runes_x, 1", "a, \"b\"", "\"a\", 1", "a, #1", "a: 1", "a, -", "a, r0", "'a', 1", "a, [1]"} {
		checkRefused(t, api.ErrDirective, 2, "nop\n.equ "+rest)
	}
	checkRefused(t, api.ErrDirective, 2, "a: nop\n.equ a, b")
	checkRefused(t, api.ErrStart, 0, ".equ start, 0x8000")
	checkImage(t, ".equ start, 0x9000\nnop", segment(0x8000, textRights, nopBytes))
	checkRefused(t, api.ErrReach, 2, "nop\nb far\n.equ far, 0x80000000")
	checkImage(t, "b near\n.equ near, 0x8004", segment(0x8000, textRights, "\xff\xff\xff\xea"))
	checkRefused(t, api.ErrReach, 1, "b low\n.equ low, -4294934528 ; 0x8000, but for 2 to the 32nd")
}

// P2103: what names stand for can lead beyond words.
func TestBeyondWords(t *testing.T) {
	const far = ".equ most, 4294967295\n.equ least, -4294967295\n"
	for _, line := range []string{"mov r0, #most+1", "mov r0, #most+'\\x02'", "msr cpsr_f, #most+256", "mov r0, #least-1", "b most+0x8001", "bl most+4294967295", "ldr r0, most+0x8001", "strb r0, most+0x8009", "adr r0, most+0x8001", "adr r0, most+1", "b least-0x7fff", "ldr r0, least+0x8001", "adr r0, least+1", "svc #most", "svc #most+1", "movw r0, #least", "add r0, r0, r0, lsl #most+1", "ldr r0, [r1, #most+1]", "ldr r0, [r1, #least]", "ldr r0, [r1, #least-4294967295]", "ldr r0, [r1, #most+4294967295]", "mcr p15, #most+1, r0, c0, c0, #0", "uxtb r0, r0, ror #most+9", "mov r0, #1, most+1", "mov r0, #most+1, 2", ".word most+1", ".half most+1", ".byte most+1", ".word least"} {
		checkRefused(t, api.ErrReach, 3, far+line)
	}
	checkImage(t, far+"b most-0xffff7fff\nmov r0, #least+0xffffffff\n.byte most-0xffffff00", segment(0x8000, textRights, "\xfe\xff\xff\xea\x00\x00\xa0\xe3\xff"))
}

// P2103: an instruction stands at a multiple of 4, in any section.
func TestPlaces(t *testing.T) {
	for n := 1; n < 4; n++ {
		checkRefused(t, api.ErrReach, 2, fmt.Sprintf(".space %d\nnop", n))
		checkRefused(t, api.ErrReach, 4, fmt.Sprintf("nop\n.data\n.space %d\nb start", n))
	}
	checkImage(t, "nop\n.data\n.space 4\nhere: b here\n.rodata\nbl here", segment(0x8000, textRights, nopBytes), segment(0x9000, rodataRights, "\xff\x03\x00\xeb"), segment(0xA000, dataRights, "\x00\x00\x00\x00\xfe\xff\xff\xea"))
}

// P2103: where the program begins.
func TestStart(t *testing.T) {
	for text, entry := range map[string]uint32{"nop": 0x8000, "start: nop": 0x8000, "nop\nstart: nop": 0x8004, "nop\n.space 8\nstart: .word 0": 0x800C, ".word 0": 0x8000, "Start: nop\nnop": 0x8000, "nop\n.space 8188\nstart: nop": 0xA000, "start: .space 4": 0x8000, "nop\nnop\nstart: .ascii \"abcd\"": 0x8008} {
		if image, _, e := checkProgram(t, text); e != api.OK || image.Entry != entry {
			t.Errorf("%q: %#x, %d", text, image.Entry, e)
		}
	}
	for _, text := range []string{"", "\n\n", " @", "start:", "nop\nstart:", "nop\nstart: .byte 1", "nop\nstart: .space 3", ".byte 1\nstart: .word 1", ".byte 1, 2\nstart: .word 1", ".byte 1, 2, 3\nstart: .word 1", ".data\nstart: .word 1", "nop\n.data\nstart: nop", "nop\n.rodata\nstart: nop\n.text\nnop", ".rodata\nnop", ".data\nnop", ".byte 1, 2, 3", ".space 3", ".data\nstart:\n.text\n.byte 1, 2, 3", "nop\n.space 4092\n.rodata\nstart: nop", "nop\n.rodata\nstart:\n", ".equ start, 1\n.byte 1", "start: .equ x, 1", "a:"} {
		checkRefused(t, api.ErrStart, 0, text)
	}
}

// P2103: the limits: MaxSegment, MaxText, MaxSymbols.
func TestLimits(t *testing.T) {
	t.Parallel()
	zeros := strings.Repeat("\x00", api.MaxSegment)
	checkImage(t, "nop\n.space 16777212", segment(0x8000, textRights, nopBytes+zeros[4:]))
	image, _ := checkImage(t, "nop\n.data\n.space 16777216\n.align 4096\n.space 0\n.ascii \"\"\n.rodata\n.space 16777215\n.byte 0\nr:", segment(0x8000, textRights, nopBytes), segment(0x9000, rodataRights, zeros), segment(0x1009000, dataRights, zeros))
	if image.Symbols[0].Value != 0x1009000 {
		t.Error(image.Symbols)
	}
	checkImage(t, ".space 16777212\nstart: nop", segment(0x8000, textRights, zeros[4:]+nopBytes))
	for _, line := range []string{"nop", ".byte 1", ".space 1", ".asciz \"\"", ".ascii \"a\"", ".word x", ".half 1", "b x", "mov pc, #257", ".byte 256"} {
		checkRefused(t, api.ErrSize, 2, ".space 16777216\n"+line+"\n$")
	}
	checkRefused(t, api.ErrSize, 2, ".space 16777215\n.half 1")
	checkRefused(t, api.ErrSize, 2, ".space 16777215\n.byte 1, 2")
	checkRefused(t, api.ErrSize, 3, ".data\n.space 16777214\n.word 1")
	checkRefused(t, api.ErrSize, 2, "nop\n.space 16777213")
	checkRefused(t, api.ErrReach, 2, ".space 16777215\nnop")
	checkRefused(t, api.ErrSize, 3, ".space 16777216\n.space 0\n.space 16777216")
	checkImage(t, ".space 16777215\n.align 4096", segment(0x8000, textRights, zeros))

	long := "nop ;" + strings.Repeat("\xff", api.MaxText-5)
	checkImage(t, long, segment(0x8000, textRights, nopBytes))
	checkRefused(t, api.ErrSize, 0, long+"x")
	checkRefused(t, api.ErrSize, 0, strings.Repeat("$", api.MaxText+1))
	checkRefused(t, api.ErrSyntax, 1, strings.Repeat("$", api.MaxText))

	var many strings.Builder
	for n := range api.MaxSymbols {
		fmt.Fprintf(&many, "l%d:%s", n, strings.Repeat("\n", n%2))
	}
	image, _ = checkImage(t, many.String()+"nop", segment(0x8000, textRights, nopBytes))
	if len(image.Symbols) != api.MaxSymbols {
		t.Error(len(image.Symbols))
	}
	checkRefused(t, api.ErrSize, 0, many.String()+"more: nop")
	checkRefused(t, api.ErrStart, 0, many.String()+"more:")
	checkRefused(t, api.ErrLabel, 513, many.String()+"more: b nothing")
	checkImage(t, many.String()+".equ more, 1\nnop", segment(0x8000, textRights, nopBytes))
}

// P2103: two things that are wrong, in one line or in two, over both passes: the one that is named first.
func TestFirstError(t *testing.T) {
	// In one line, in the order of the first pass.
	for n, line := range []string{"a: r0: fly $", "r0: a: fly", "a: a: r0: 5", "a: r0: a:", "a: a: 5", "5 fly", "a: : fly", "fly 5", "mov r0 5, x", ".byte 1 2", ".equ a, x"} {
		want := []api.Errno{api.ErrSyntax, api.ErrSyntax, api.ErrTwice, api.ErrSyntax, api.ErrTwice, api.ErrSyntax, api.ErrSyntax, api.ErrMnemonic, api.ErrOperand, api.ErrDirective, api.ErrDirective}[n]
		checkRefused(t, want, 1, line)
	}
	checkRefused(t, api.ErrTwice, 2, "a:\na: mov r0")
	checkRefused(t, api.ErrOperand, 2, ".byte 1\nmov r0")
	checkRefused(t, api.ErrOperand, 2, ".space 16777215\nmov x")
	checkRefused(t, api.ErrMnemonic, 2, ".space 16777215\nmovx r0")
	checkRefused(t, api.ErrReach, 2, ".space 16777215\nmov r0, #x")
	checkRefused(t, api.ErrDirective, 2, ".space 16777216\n.byte")
	checkRefused(t, api.ErrDirective, 2, ".space 16777216\n.space 1, 256")
	checkRefused(t, api.ErrDirective, 2, ".equ a, 1\n.equ a, b")
	checkRefused(t, api.ErrTwice, 2, ".equ a, 1\n.equ a, 2")
	checkRefused(t, api.ErrTwice, 2, ".space 16777216\n a: a: nop")
	// In one line, in the order of the second.
	checkRefused(t, api.ErrLabel, 1, "mov r0, #256, x")
	checkRefused(t, api.ErrReach, 1, "str pc, [r0, #4096]")
	checkRefused(t, api.ErrIns, 1, "str pc, [r0, #4095]")
	checkRefused(t, api.ErrLabel, 1, ".byte 256, x")
	checkRefused(t, api.ErrLabel, 1, "str pc, [r0, #x]")
	// In two lines.
	checkRefused(t, api.ErrMnemonic, 1, "fly\n$")
	checkRefused(t, api.ErrSyntax, 1, "$\nfly")
	checkRefused(t, api.ErrReach, 1, "mov r0, #257\nb x")
	checkRefused(t, api.ErrLabel, 1, "b x\nmov r0, #257")
	checkRefused(t, api.ErrIns, 1, "mul r0, r1, pc\nb x")
	checkRefused(t, api.ErrLabel, 2, "nop\n.word x\nb y")
	checkRefused(t, api.ErrReach, 3, "nop\n.data\n.byte 256\n.text\nb x")
	// Over both passes.
	checkRefused(t, api.ErrSize, 3, "b x\n.space 16777212\nnop")
	checkRefused(t, api.ErrSyntax, 2, "b x\n$")
	checkRefused(t, api.ErrTwice, 3, "mov r0, #257\na:\na:")
	checkRefused(t, api.ErrReach, 3, "mul r0, r1, pc\n.byte 1\nnop")
	checkRefused(t, api.ErrDirective, 2, "b x\n.align 5")
	checkRefused(t, api.ErrLabel, 1, ".word x ; and nothing else")
	checkRefused(t, api.ErrIns, 2, ".data\nmul r0, r1, pc ; and there is no start")
	checkRefused(t, api.ErrReach, 1, "b 2\n")
}

// The lines are cut at line feeds alone, and a string may not go over one.
func TestLineFeeds(t *testing.T) {
	checkImage(t, "nop\r\n\r\nnop", segment(0x8000, textRights, nopBytes+nopBytes))
	checkRefused(t, api.ErrOperand, 1, "nop\rnop")
	checkRefused(t, api.ErrSyntax, 2, "nop\nmovw r0, #'\n'")
	checkRefused(t, api.ErrSyntax, 4, "\n\n\n$")
	checkRefused(t, api.ErrSyntax, 1, "nop\u2028nop")
	checkRefused(t, api.ErrSyntax, 1, "nop\vnop")
}

// Rule 4: what is handed out is new memory, and no two lists of it share any.
func TestNewMemory(t *testing.T) {
	const text = "start: nop\nb start\n.ascii \"abcd\"\n.space 4\n.rodata\n.word start\n.data\nx: .byte 1, 2"
	image, list, _ := asm.Assemble(text)
	lists := [][]byte{}
	for _, s := range image.Segments {
		lists = append(lists, s.Data[:cap(s.Data)])
	}
	for _, l := range list {
		lists = append(lists, l.Data[:cap(l.Data)])
	}
	for n, b := range lists {
		for k := range b {
			b[k] = byte(n)
		}
	}
	for n, b := range lists {
		for k := range b {
			if b[k] != byte(n) {
				t.Fatalf("list %d shares memory", n)
			}
		}
	}
	checkProgram(t, text)
}

// One text always gives the same.
func TestAgain(t *testing.T) {
	for _, text := range []string{"start: b start\n.data\n.word start, x\nx:y:z:", "a:b:c:\n.equ d, 1\n.equ e, 2\n.word a, b, c, d, e"} {
		for range 50 {
			checkProgram(t, text)
		}
	}
}
