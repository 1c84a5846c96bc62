package asm_test

import (
	"maps"
	"regexp"
	"slices"
	"strconv"
	"strings"

	"atlas/api"
)

// The chapter's grammar as rows of words. Rd, Rn, Rm, Rs, Ra: registers; V:kind: a value; cN:field; LIST; words in great letters stand for the rows of parts below; all else for itself.

// row: what is written, and what that says beside its registers and numbers.
type row struct{ form, says string }

// operands: the chapter's table, names and operands.
const operands = `
and eor sub rsb add adc sbc rsc orr bic | Rd , Rn , OP2
tst teq cmp cmn | Rn , OP2
mov mvn | Rd , OP2
movw movt | Rd , # V:half
mul | Rd , Rm , Rs
mla | Rd , Rm , Rs , Ra
umull umlal smull smlal | Ra , Rd , Rm , Rs
clz rev | Rd , Rm
uxtb uxth sxtb sxth | Rd , Rm
uxtb uxth sxtb sxth | Rd , Rm , ror # V:bytes
ldr str ldrb strb | Rd , ADDRESS
ldrh strh ldrsb ldrsh | Rd , NEAR
ldmda ldmia ldmdb ldmib stmda stmia stmdb stmib | Rn , LIST
ldmda ldmia ldmdb ldmib stmda stmia stmdb stmib | Rn ! , LIST | Write
push pop | LIST
b bl | V:branch
bx blx | Rm
svc | # V:call
bkpt | # V:half
mrs | Rd , cpsr
mrs | Rd , spsr | S
msr | MASK , Rm | Reg
msr | MASK , IMMEDIATE
mcr mrc | p15 , # V:op1 , Rd , cN:CRn , cN:CRm , # V:op2
nop wfi |
adr | Rd , V:adr
`

// parts: what the words in great letters stand for.
var parts = map[string][]row{
	"IMMEDIATE": {{"# V:const", "Imm"}, {"# V:byte , V:turn", "Imm"}},
	"SHIFT":     {{"lsl # V:lsl", "lsl"}, {"lsr # V:lsr", "lsr"}, {"asr # V:asr", "asr"}, {"ror # V:ror", "ror"}, {"rrx", "ror"}},
	"OP2": {{"IMMEDIATE", ""}, {"Rm", "Reg"}, {"Rm , SHIFT", "Reg"},
		{"Rm , lsl Rs", "Rsr lsl"}, {"Rm , lsr Rs", "Rsr lsr"}, {"Rm , asr Rs", "Rsr asr"}, {"Rm , ror Rs", "Rsr ror"}},
	"SIDE":    {{"Rm", "Reg Up"}, {"+ Rm", "Reg Up"}, {"- Rm", "Reg"}},
	"OFFSET":  {{"# V:offset", "Imm"}, {"SIDE", ""}, {"SIDE , SHIFT", ""}},
	"SHORT":   {{"# V:short", "Imm"}, {"SIDE", ""}},
	"ADDRESS": {{"[ Rn ]", "Imm Pre Up"}, {"[ Rn , OFFSET ]", "Pre"}, {"[ Rn , OFFSET ] !", "Pre Write"}, {"[ Rn ] , OFFSET", ""}, {"V:load", "Imm Pre PC"}},
	"NEAR":    {{"[ Rn ]", "Imm Pre Up"}, {"[ Rn , SHORT ]", "Pre"}, {"[ Rn , SHORT ] !", "Pre Write"}, {"[ Rn ] , SHORT", ""}},
	"MASK":    masks(),
}

func masks() []row {
	var rows []row
	for mask := 1; mask < 16; mask++ {
		letters := strings.Repeat("f", mask/8) + strings.Repeat("s", mask/4%2) + strings.Repeat("x", mask/2%2) + strings.Repeat("c", mask%2)
		says := "M" + strconv.Itoa(mask)
		rows = append(rows, row{"cpsr_" + letters, says}, row{"spsr_" + letters, says + " S"})
	}
	return rows
}

// spread: all rows that one stands for, with no part left.
func spread(r row) []row {
	words := strings.Fields(r.form)
	for n, word := range words {
		if parts[word] == nil {
			continue
		}
		var all []row
		for _, p := range parts[word] {
			form := slices.Concat(words[:n], []string{p.form}, words[n+1:])
			all = append(all, spread(row{strings.Join(form, " "), r.says + " " + p.says})...)
		}
		return all
	}
	return []row{r}
}

// way: a row with what finds it, in the plain form of a line.
type way struct {
	row
	re    *regexp.Regexp
	kinds []string // of its values
}

// ways: by the names of instructions.
var ways = makeWays()

func makeWays() map[string][]way {
	all := map[string][]way{}
	for line := range strings.Lines(strings.TrimSpace(operands)) {
		cells := append(strings.Split(line, "|"), "")
		for _, r := range spread(row{strings.TrimSpace(cells[1]), strings.TrimSpace(cells[2])}) {
			w := makeWay(r)
			for _, name := range strings.Fields(cells[0]) {
				all[name] = append(all[name], w)
			}
		}
	}
	return all
}

// plainValue, plainList: in the plain form of a line.
const (
	plainValue = `- =\d+|=\d+|\$\S+ [+-] =\d+|\$\S+`
	plainList  = `\{ (?P<LIST>%\d+(?: - %\d+)?(?: , %\d+(?: - %\d+)?)*) \}`
)

func makeWay(r row) way {
	w := way{row: r}
	var said []string
	for _, word := range strings.Fields(r.form) {
		if kind, ok := strings.CutPrefix(word, "V:"); ok {
			said = append(said, "(?P<V"+strconv.Itoa(len(w.kinds))+">"+plainValue+")")
			w.kinds = append(w.kinds, kind)
		} else if field, ok := strings.CutPrefix(word, "cN:"); ok {
			said = append(said, `\$c(?P<`+field+`>[0-9]|1[0-5])`)
		} else if word == "LIST" {
			said = append(said, plainList)
		} else if word[0] == 'R' {
			said = append(said, `%(?P<`+word+`>\d+)`)
		} else if word[0] >= 'a' {
			said = append(said, regexp.QuoteMeta("$"+word))
		} else {
			said = append(said, regexp.QuoteMeta(word))
		}
	}
	w.re = regexp.MustCompile("^" + strings.Join(said, " ") + "$")
	return w
}

// ops: by the names; what those of several words, or of none of their own, say beside.
var ops = map[string]row{
	"and": {"1", ""}, "eor": {"2", ""}, "sub": {"3", ""}, "rsb": {"4", ""}, "add": {"5", ""}, "adc": {"6", ""}, "sbc": {"7", ""}, "rsc": {"8", ""},
	"tst": {"9", "S"}, "teq": {"10", "S"}, "cmp": {"11", "S"}, "cmn": {"12", "S"}, "orr": {"13", ""}, "mov": {"14", ""}, "bic": {"15", ""}, "mvn": {"16", ""},
	"movw": {"17", ""}, "movt": {"18", ""}, "mul": {"19", ""}, "mla": {"20", ""}, "umull": {"21", ""}, "umlal": {"22", ""}, "smull": {"23", ""}, "smlal": {"24", ""},
	"clz": {"25", ""}, "rev": {"26", ""}, "uxtb": {"27", ""}, "uxth": {"28", ""}, "sxtb": {"29", ""}, "sxth": {"30", ""},
	"ldr": {"31", ""}, "str": {"32", ""}, "ldrb": {"33", ""}, "strb": {"34", ""}, "ldrh": {"35", ""}, "strh": {"36", ""}, "ldrsb": {"37", ""}, "ldrsh": {"38", ""},
	"ldmda": {"39", ""}, "ldmia": {"39", "Up"}, "ldmdb": {"39", "Pre"}, "ldmib": {"39", "Pre Up"},
	"stmda": {"40", ""}, "stmia": {"40", "Up"}, "stmdb": {"40", "Pre"}, "stmib": {"40", "Pre Up"},
	"b": {"41", ""}, "bl": {"42", ""}, "bx": {"43", ""}, "blx": {"44", ""}, "svc": {"45", ""}, "bkpt": {"46", ""},
	"mrs": {"47", ""}, "msr": {"48", ""}, "mcr": {"49", ""}, "mrc": {"50", ""}, "nop": {"51", ""}, "wfi": {"52", ""},
	"adr": {"5", "Imm PC"}, "push": {"40", "SP Pre Write"}, "pop": {"39", "SP Up Write"},
}

// withS: those behind which an s may stand.
var withS = strings.Fields("and eor sub rsb add adc sbc rsc orr mov bic mvn mul mla umull umlal smull smlal")

// conds: by their numbers; 15 is al, once more.
var conds = strings.Split("eq ne cs cc mi pl vs vc hi ls ge lt gt le  al", " ")

// said: a mnemonic with all that its word says.
type said struct {
	name string
	ins  api.Ins
}

// mnemonics: all words, each with all that it can be read as, the longest name first.
var mnemonics = makeMnemonics()

func makeMnemonics() map[string][]said {
	all := map[string][]said{}
	names := slices.Collect(maps.Keys(ops))
	slices.SortFunc(names, func(a, b string) int { return len(b) - len(a) })
	for _, name := range names {
		i := api.Ins{}
		i.Op, _ = strconv.Atoi(ops[name].form)
		apply(&i, ops[name].says)
		for cond, word := range conds {
			i.Cond = min(cond, 14)
			all[name+word] = append(all[name+word], said{name, i})
			if slices.Contains(withS, name) {
				s := i
				s.S = true
				all[name+"s"+word] = append(all[name+"s"+word], said{name, s})
			}
		}
	}
	return all
}

// apply: what the words of a row say.
func apply(i *api.Ins, says string) {
	for _, word := range strings.Fields(says) {
		switch word {
		case "Imm":
			i.Form = 1
		case "Reg":
			i.Form = 2
		case "Rsr":
			i.Form = 3
		case "lsl", "lsr", "asr", "ror":
			i.Shift = map[string]int{"lsl": 0, "lsr": 1, "asr": 2, "ror": 3}[word]
		case "Pre":
			i.Pre = true
		case "Up":
			i.Up = true
		case "Write":
			i.Write = true
		case "S":
			i.S = true
		case "PC":
			i.Rn = 15
		case "SP":
			i.Rn = 13
		default: // M and a mask
			i.Amount, _ = strconv.Atoi(word[1:])
		}
	}
}
