package asm_test

import (
	"fmt"
	"regexp"
	"slices"
	"strconv"
	"strings"

	"atlas/api"
	"atlas/isa"
)

// The model reads a line as its plain form: all tokens, a blank between each two: % and a register's number, $ and a name, ? and another word, = and a
// number, " and the bytes of a string in hexadecimal digits, signs as they stand.

const (
	letters = `a-zA-Z\x{C0}-\x{D6}\x{D8}-\x{F6}\x{F8}-\x{24F}\x{391}-\x{3A1}\x{3A3}-\x{3C9}`
	escapes = `\\[nt0\\'"]|\\x[0-9a-fA-F][0-9a-fA-F]`
)

var (
	oneToken   = regexp.MustCompile(`^(?:([` + letters + `_.][` + letters + `_0-9]*)|([0-9][` + letters + `_0-9]*)|'([^'\\]|` + escapes + `)'|"((?:[^"\\]|` + escapes + `)*)"|([,:#[\]{}!+-]))`)
	oneEscape  = regexp.MustCompile(escapes)
	aNumber    = regexp.MustCompile(`^(?:[0-9]+(?:_[0-9]+)*|0x[0-9a-fA-F]+(?:_[0-9a-fA-F]+)*)$`)
	aName      = regexp.MustCompile(`^[` + letters + `][` + letters + `_0-9]{0,15}$`)
	aLabel     = regexp.MustCompile(`^([%$?]\S+) : ?`)
	aValue     = regexp.MustCompile(`^(?:` + plainValue + `)$`)
	someValues = regexp.MustCompile(`^(?:` + plainValue + `)(?: , (?:` + plainValue + `))*$`)
)

var registers = strings.Fields("r0 r1 r2 r3 r4 r5 r6 r7 r8 r9 r10 r11 r12 sp lr pc r13 r14 r15")

// plain: the form of a line; false: something is no token.
func plain(line string) (string, bool) {
	var all []string
	for {
		line = strings.TrimLeft(line, "\t\r ")
		if line == "" || line[0] == '@' || line[0] == ';' {
			return strings.Join(all, " "), true
		}
		found := oneToken.FindStringSubmatch(line)
		if found == nil {
			return "", false
		}
		said, ok := plainToken(found)
		if !ok {
			return "", false
		}
		all = append(all, said)
		line = line[len(found[0]):]
	}
}

func plainToken(found []string) (string, bool) {
	switch word, number, sign := found[1], found[2], found[5]; {
	case word != "":
		if n := slices.Index(registers, word); n >= 0 {
			return "%" + strconv.Itoa(n-n/16*3), true
		}
		if aName.MatchString(word) {
			return "$" + word, true
		}
		return "?" + word, true
	case number != "":
		digits := strings.ReplaceAll(number, "_", "")
		base := 10
		if strings.HasPrefix(digits, "0x") {
			digits, base = digits[2:], 16
		}
		n, err := strconv.ParseUint(digits, base, 32)
		return "=" + strconv.FormatUint(n, 10), err == nil && aNumber.MatchString(number)
	case sign != "":
		return sign, true
	case found[0][0] == '"':
		return `"` + fmt.Sprintf("%x", unescaped(found[4])), true
	case found[3][0] == '\\':
		return "=" + strconv.Itoa(int(unescaped(found[3])[0])), true
	}
	r := []rune(found[3])[0]
	return "=" + strconv.Itoa(int(r)), found[3] == string(r) // a bad rune does not come back
}

// unescaped: the bytes of a text with escapes.
func unescaped(s string) string {
	return oneEscape.ReplaceAllStringFunc(s, func(e string) string {
		if n := strings.IndexByte("n\nt\t0\x00", e[1]); n >= 0 {
			return "n\nt\t0\x00"[n+1 : n+2]
		}
		if e[1] == 'x' {
			n, _ := strconv.ParseUint(e[2:], 16, 8)
			return string([]byte{byte(n)})
		}
		return e[1:]
	})
}

// valueOf: the number of a value; false: a name stands for nothing.
func valueOf(v string, names map[string]int64) (int64, bool) {
	sum, sign, ok := int64(0), int64(1), true
	for _, word := range strings.Fields(v) {
		switch word[0] {
		case '-':
			sign = -1
		case '$':
			sum, ok = names[word[1:]]
		case '=':
			n, _ := strconv.ParseInt(word[1:], 10, 64)
			sum += sign * n
		}
	}
	return sum, ok
}

// lined: the instruction of a line.
func lined(line string, at uint32) (api.Ins, api.Errno) {
	p, ok := plain(line)
	if !ok || p == "" {
		return api.Ins{}, api.ErrSyntax
	}
	word, rest, _ := strings.Cut(p, " ")
	all := mnemonics[strings.TrimLeft(word, "$?")]
	if word[0] != '$' && word[0] != '?' || len(all) == 0 {
		return api.Ins{}, api.ErrMnemonic
	}
	if !formed(all[0], rest) {
		return api.Ins{}, api.ErrOperand
	}
	return settled(all[0], rest, at, nil)
}

// formed: have the operands the form that they should have?
func formed(m said, rest string) bool {
	_, _, ok := wayOf(m, rest)
	return ok
}

// wayOf: the row that operands fit, with what they say by its names.
func wayOf(m said, rest string) (way, map[string]string, bool) {
	for _, w := range ways[m.name] {
		found := w.re.FindStringSubmatch(rest)
		if found == nil {
			continue
		}
		named := map[string]string{}
		for n, name := range w.re.SubexpNames() {
			named[name] = found[n]
		}
		_, ok := listOf(named["LIST"])
		return w, named, ok || named["LIST"] == ""
	}
	return way{}, nil, false
}

// listOf: the registers of a list; false: one is there twice, or a run falls.
func listOf(s string) (uint16, bool) {
	count := [16]int{}
	for run := range strings.SplitSeq(s, " , ") {
		var first, last int
		if n, _ := fmt.Sscanf(run, "%%%d - %%%d", &first, &last); n == 1 {
			last = first
		}
		if last < first {
			return 0, false
		}
		for reg := first; reg <= last; reg++ {
			count[reg]++
		}
	}
	list := uint16(0)
	for reg, n := range count {
		if n > 1 {
			return 0, false
		}
		list += uint16(n) << reg
	}
	return list, true
}

// settled: the instruction of operands that have their form.
func settled(m said, rest string, at uint32, names map[string]int64) (api.Ins, api.Errno) {
	w, named, _ := wayOf(m, rest)
	i := m.ins
	apply(&i, w.says)
	for name, field := range map[string]*int{"Rd": &i.Rd, "Rn": &i.Rn, "Rm": &i.Rm, "Rs": &i.Rs, "Ra": &i.Ra, "CRn": &i.Tuple.CRn, "CRm": &i.Tuple.CRm} {
		if named[name] != "" {
			*field, _ = strconv.Atoi(named[name])
		}
	}
	if named["LIST"] != "" {
		i.List, _ = listOf(named["LIST"])
	}
	for n := range w.kinds {
		if _, ok := valueOf(named["V"+strconv.Itoa(n)], names); !ok {
			return api.Ins{}, api.ErrLabel
		}
	}
	for n, kind := range w.kinds {
		text := named["V"+strconv.Itoa(n)]
		v, _ := valueOf(text, names)
		if !put(&i, kind, v, text[0] == '-', at) {
			return api.Ins{}, api.ErrReach
		}
	}
	if !isa.Right(i) {
		return api.Ins{}, api.ErrIns
	}
	return i, api.OK
}

// limits: of the values that are no more than a number, by their kinds.
var limits = map[string][2]int64{
	"half": {0, 65535}, "byte": {0, 255}, "turn": {0, 30}, "bytes": {8, 24}, "call": {0, 16777215}, "op1": {0, 7}, "op2": {0, 7},
	"lsl": {0, 31}, "lsr": {1, 32}, "asr": {1, 32}, "ror": {1, 31}, "offset": {-4095, 4095}, "short": {-255, 255},
	"const": {-2147483648, 4294967295}, "branch": {-2147483648, 4294967295}, "load": {-2147483648, 4294967295}, "adr": {-2147483648, 4294967295},
}

// put: what a value of a kind says; false: it can not be.
func put(i *api.Ins, kind string, v int64, minus bool, at uint32) bool {
	if v < limits[kind][0] || v > limits[kind][1] {
		return false
	}
	far := int64(int32(uint32(v) - (at + 8)))
	size := max(far, -far)
	switch kind {
	case "half", "byte", "call":
		i.Imm = uint32(v)
	case "turn":
		i.Imm += 128 * uint32(v)
		return v%2 == 0
	case "op1":
		i.Tuple.Op1 = int(v)
	case "op2":
		i.Tuple.Op2 = int(v)
	case "bytes":
		i.Amount = int(v) / 8
		return v%8 == 0
	case "lsl", "lsr", "asr", "ror":
		if i.Amount = int(v); v == 32 {
			i.Amount = 0
		}
	case "offset", "short":
		i.Imm, i.Up = uint32(max(v, -v)), v >= 0 && !minus
	case "branch":
		i.Imm = uint32(far)
		return far%4 == 0 && far >= -33554432 && far <= 33554428
	case "load":
		i.Imm, i.Up = uint32(size), far >= 0
		return size <= 4095
	case "adr":
		if far < 0 {
			i.Op = api.OpSUB
		}
		imm, ok := twelve(uint32(size))
		i.Imm = imm
		return ok
	case "const":
		imm, ok := twelve(uint32(v))
		i.Imm = imm
		return ok
	}
	return true
}

// word12: the word that twelve bits say.
func word12(imm uint32) uint32 {
	w := uint64(imm&255) << 32 >> (2 * (imm >> 8)) // what falls out below comes in above
	return uint32(w>>32) | uint32(w)
}

// twelves: the least twelve bits of each word that has any.
var twelves = makeTwelves()

func makeTwelves() map[uint32]uint32 {
	all := map[uint32]uint32{}
	for imm := uint32(4096); imm > 0; imm-- {
		all[word12(imm-1)] = imm - 1
	}
	return all
}

// twelve: the least twelve bits that say a word.
func twelve(w uint32) (uint32, bool) {
	imm, ok := twelves[w]
	return imm, ok
}

// told: the line of an instruction.
func told(i api.Ins, at uint32) (string, api.Errno) {
	if !isa.Right(i) {
		return "", api.ErrIns
	}
	name, s := nameOf(i), ""
	if i.S && slices.Contains(withS, name) {
		s = "s"
	}
	line := name + s + strings.TrimSpace(conds[i.Cond]) + " "
	second := secondTold(i)
	switch {
	case i.Op <= 16 && ops[name].says == "S":
		line += "Rn, " + second
	case name == "mov", name == "mvn":
		line += "Rd, " + second
	case i.Op <= 16:
		line += "Rd, Rn, " + second
	case i.Op <= 18:
		line += "Rd, #IMM"
	case i.Op == 19:
		line += "Rd, Rm, Rs"
	case i.Op == 20:
		line += "Rd, Rm, Rs, Ra"
	case i.Op <= 24:
		line += "Ra, Rd, Rm, Rs"
	case i.Op <= 26, i.Op <= 30 && i.Amount == 0:
		line += "Rd, Rm"
	case i.Op <= 30:
		line += fmt.Sprintf("Rd, Rm, ror #%d", 8*i.Amount)
	case i.Op <= 38:
		line += "Rd, " + addressTold(i)
	case i.Op <= 40:
		line += "Rn" + strings.Repeat("!", count(i.Write)) + ", " + listTold(i.List)
	case i.Op <= 42:
		line += fmt.Sprintf("%#x", at+8+i.Imm)
	case i.Op <= 44:
		line += "Rm"
	case i.Op <= 46:
		line += "#IMM"
	case i.Op == 47:
		line += "Rd, " + []string{"cpsr", "spsr"}[count(i.S)]
	case i.Op == 48:
		for _, r := range parts["MASK"] {
			if j := (api.Ins{}); r.form != "" {
				apply(&j, r.says)
				if j.S == i.S && j.Amount == i.Amount {
					line += r.form + ", " + second
				}
			}
		}
	case i.Op <= 50:
		line += fmt.Sprintf("p15, #%d, Rd, c%d, c%d, #%d", i.Tuple.Op1, i.Tuple.CRn, i.Tuple.CRm, i.Tuple.Op2)
	}
	r := strings.NewReplacer("Rd", registers[i.Rd], "Rn", registers[i.Rn], "Rm", registers[i.Rm], "Rs", registers[i.Rs], "Ra", registers[i.Ra], "IMM", fmt.Sprint(i.Imm))
	return strings.TrimSpace(r.Replace(line)), api.OK
}

func count(so bool) int {
	if so {
		return 1
	}
	return 0
}

// nameOf: of the names of an instruction the one that says no more than its number, and of a list its way.
func nameOf(i api.Ins) string {
	for name, r := range ops {
		j := api.Ins{}
		apply(&j, r.says)
		if r.form != strconv.Itoa(i.Op) || j.Rn != 0 {
			continue
		}
		if i.Op != api.OpLDM && i.Op != api.OpSTM || j.Pre == i.Pre && j.Up == i.Up {
			return name
		}
	}
	return ""
}

func secondTold(i api.Ins) string {
	if i.Op == api.OpMSR && i.Form == api.FormReg {
		return "Rm"
	}
	if i.Form == api.FormReg {
		return "Rm" + shiftTold(i)
	}
	if i.Form == api.FormRsr {
		return "Rm, " + []string{"lsl", "lsr", "asr", "ror"}[i.Shift] + " Rs"
	}
	if imm, _ := twelve(word12(i.Imm & 4095)); imm != i.Imm {
		return fmt.Sprintf("#%d, %d", i.Imm%256, i.Imm/256*2)
	}
	return fmt.Sprintf("#%d", word12(i.Imm))
}

func shiftTold(i api.Ins) string {
	if i.Amount == 0 {
		return []string{"", ", lsr #32", ", asr #32", ", rrx"}[i.Shift]
	}
	return fmt.Sprintf(", %s #%d", []string{"lsl", "lsr", "asr", "ror"}[i.Shift], i.Amount)
}

func addressTold(i api.Ins) string {
	minus := "-"
	if i.Up {
		minus = ""
	}
	offset := "#" + minus + "IMM"
	if i.Form == api.FormReg {
		offset = minus + "Rm" + shiftTold(i)
	}
	switch {
	case !i.Pre:
		return "[Rn], " + offset
	case i.Write:
		return "[Rn, " + offset + "]!"
	case offset == "#IMM" && i.Imm == 0:
		return "[Rn]"
	}
	return "[Rn, " + offset + "]"
}

// listTold: a letter for each register, as many in a row as there are.
func listTold(list uint16) string {
	bits := ""
	for reg := range 16 {
		bits += string('0' + rune(list>>reg&1))
	}
	said := []string{}
	for _, place := range regexp.MustCompile("111+|1").FindAllStringIndex(bits, -1) {
		if first, last := registers[place[0]], registers[place[1]-1]; first == last {
			said = append(said, first)
		} else {
			said = append(said, first+"-"+last)
		}
	}
	return "{" + strings.Join(said, ", ") + "}"
}
