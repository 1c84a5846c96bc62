package script_test

import (
	"math/big"
	"reflect"
	"regexp"
	"strconv"
	"strings"
	"testing"

	"atlas/api"
	"atlas/script"
)

// The chapter's table, a line a command, noise's three forms each on its own: the kind of each word and the field that it gives; in [ ] the word that may
// be missing, its field, and what the field is where the word stands.
const chapter = `
boot: NUM,Config.Frames NUM,Config.I NUM,Config.D NUM,Config.Main NUM,Config.Asids NUM,Config.N
bare: NUM,Config.Frames NUM,Config.I NUM,Config.D NUM,Config.Main
noise none: NUM,Noise.Pick [first,Noise.MainFirst,true]
noise evict: TLB,Noise.Which NUM,Noise.Slot NUM,Noise.Pick [first,Noise.MainFirst,true]
noise fill: WORD,Noise.VA HOW,Noise.Fetch NUM,Noise.Pick [first,Noise.MainFirst,true]
create: NAME,Name
destroy: NAME,Name
switch: NAME-,Name
map: NAME,Name WORD,VA SIZE,Size NUM,Count RIGHTS,Rights
unmap: NAME,Name WORD,VA LONG,Len
protect: NAME,Name WORD,VA LONG,Len RIGHTS,Rights
share: NAME,Name WORD,VA NAME,Other WORD,From LONG,Len RIGHTS,Rights
query: NAME,Name WORD,VA
load: WORD,VA NUM,Bytes [priv,Priv,true]
store: WORD,VA NUM,Bytes WORD,Value [priv,Priv,true]
fetch: WORD,VA NUM,Bytes [priv,Priv,true]
spaces:
poke: LONG,PA WORD,Value
peek: LONG,PA
mcr: CR,Tuple.CRn OP,Tuple.Op1 CR,Tuple.CRm OP,Tuple.Op2 WORD,Value [user,Priv,false]
mrc: CR,Tuple.CRn OP,Tuple.Op1 CR,Tuple.CRm OP,Tuple.Op2 [user,Priv,false]
dirty:
`

// kinds: by the commands' names.
var kinds = map[string]int{
	"boot": api.CBoot, "bare": api.CBare, "noise": api.CNoise, "create": api.CCreate, "destroy": api.CDestroy, "switch": api.CSwitch, "map": api.CMap,
	"unmap": api.CUnmap, "protect": api.CProtect, "share": api.CShare, "query": api.CQuery, "load": api.CLoad, "store": api.CStore, "fetch": api.CFetch,
	"spaces": api.CSpaces, "poke": api.CPoke, "peek": api.CPeek, "mcr": api.CMcr, "mrc": api.CMrc, "dirty": api.CDirty,
}

var acts = map[string]int{"none": api.NNone, "evict": api.NEvict, "fill": api.NFill}

// part: a word, by its kind, and the path of its field.
type part struct{ kind, field string }

// row: of the chapter's table.
type row struct {
	head      []string // the name, and of noise the act
	kind, act int
	parts     []part
	mark      string // the word in [ ]; empty: there is none
	field     string // of the mark
	says      bool
}

// rows: of the chapter's table.
var rows = readRows()

func readRows() []row {
	var l []row
	for line := range strings.Lines(strings.TrimSpace(chapter)) {
		head, rest, _ := strings.Cut(line, ":")
		r := row{head: strings.Fields(head)}
		r.kind = kinds[r.head[0]]
		if len(r.head) == 2 {
			r.act = acts[r.head[1]]
		}
		for _, w := range strings.Fields(rest) {
			bits := strings.Split(strings.Trim(w, "[]"), ",")
			if len(bits) == 3 {
				r.mark, r.field, r.says = bits[0], bits[1], bits[2] == "true"
			} else {
				r.parts = append(r.parts, part{bits[0], bits[1]})
			}
		}
		l = append(l, r)
	}
	return l
}

// base: the command of a row, with nothing said but that.
func (r row) base() api.Command {
	return api.Command{Kind: r.kind, Noise: api.Noise{Act: r.act}}
}

// fieldAt: the field of a command, by its path.
func fieldAt(c *api.Command, path string) reflect.Value {
	v := reflect.ValueOf(c).Elem()
	for _, name := range strings.Split(path, ".") {
		v = v.FieldByName(name)
	}
	return v
}

func put(c *api.Command, path string, value any) { fieldAt(c, path).Set(reflect.ValueOf(value)) }

// leaves: the paths of all fields of a command, but Kind; the rights are one.
var leaves = leavesOf(reflect.TypeFor[api.Command](), "")

func leavesOf(t reflect.Type, ahead string) []string {
	var l []string
	for f := range t.Fields() {
		switch {
		case f.Name == "Kind":
		case f.Type.Kind() == reflect.Struct && f.Type != reflect.TypeFor[api.Rights]():
			l = append(l, leavesOf(f.Type, ahead+f.Name+".")...)
		default:
			l = append(l, ahead+f.Name)
		}
	}
	return l
}

var (
	numberForm = regexp.MustCompile(`^([0-9]+(_[0-9]+)*|0x[0-9a-fA-F]+(_[0-9a-fA-F]+)*)$`)
	nameForm   = regexp.MustCompile(`^[\p{L}][\p{L}0-9_]{0,15}$`) // of the letters that these tests use
	rightsForm = regexp.MustCompile(`^[r-][w-][x-]$`)
)

// numberOf: the number that a text writes, below the power of two.
func numberOf(s string, power uint) (uint64, bool) {
	if !numberForm.MatchString(s) {
		return 0, false
	}
	digits, base := strings.ReplaceAll(s, "_", ""), 10
	if hex, ok := strings.CutPrefix(digits, "0x"); ok {
		digits, base = hex, 16
	}
	v, _ := new(big.Int).SetString(digits, base)
	if v.BitLen() > int(power) {
		return 0, false
	}
	return v.Uint64(), true
}

// valueOf: what a word of that kind gives, or its error.
func valueOf(kind, s string) (any, api.Errno) {
	powers := map[string]uint{"NUM": 31, "WORD": 32, "LONG": 40, "CR": 4, "OP": 3}
	if power, ok := powers[kind]; ok {
		v, ok := numberOf(s, power)
		switch {
		case !ok:
			return nil, api.ErrNumber
		case kind == "WORD":
			return uint32(v), api.OK
		case kind == "LONG":
			return v, api.OK
		}
		return int(v), api.OK
	}
	var v any
	ok := false
	switch kind {
	case "NAME", "NAME-":
		if kind == "NAME-" && s == "-" {
			return "", api.OK
		}
		if !nameForm.MatchString(s) {
			return nil, api.ErrName
		}
		return s, api.OK
	case "SIZE":
		v, ok = map[string]int{"4k": 1, "64k": 2, "1m": 3, "16m": 4}[s], strings.Contains(" 4k 64k 1m 16m ", " "+s+" ")
	case "TLB":
		v, ok = map[string]int{"i": 1, "d": 2, "main": 3}[s], strings.Contains(" i d main ", " "+s+" ")
	case "HOW":
		v, ok = s == "fetch", s == "fetch" || s == "load"
	case "RIGHTS":
		v, ok = api.Rights{Read: strings.Contains(s, "r"), Write: strings.Contains(s, "w"), Exec: strings.Contains(s, "x")}, rightsForm.MatchString(s)
	}
	if !ok {
		return nil, api.ErrWord
	}
	return v, api.OK
}

// textOf: the word for a value of that kind; not ok, if no word gives it.
func textOf(kind string, value any) (s string, ok bool) {
	switch v := value.(type) {
	case uint32:
		s = "0x" + strconv.FormatUint(uint64(v), 16)
	case uint64:
		s = "0x" + strconv.FormatUint(v, 16)
	case bool:
		s = map[bool]string{true: "fetch", false: "load"}[v]
	case string:
		s = v
		if kind == "NAME-" && v == "" {
			s = "-"
		}
	case api.Rights:
		flags := []byte("---")
		for i, on := range []bool{v.Read, v.Write, v.Exec} {
			if on {
				flags[i] = "rwx"[i]
			}
		}
		s = string(flags)
	case int:
		s = strconv.Itoa(v)
		switch kind {
		case "SIZE":
			s = map[int]string{1: "4k", 2: "64k", 3: "1m", 4: "16m"}[v]
		case "TLB":
			s = map[int]string{1: "i", 2: "d", 3: "main"}[v]
		}
	}
	back, e := valueOf(kind, s)
	return s, e == api.OK && back == value
}

// reply: of Parse or Print, with what Code tells of its error.
type reply struct {
	c  api.Command
	s  string
	e  api.Errno
	at int
}

func refused(e api.Errno, at int) reply { return reply{e: e, at: at} }

// modelFields: the words of a line.
func modelFields(line string) []string {
	text, _, _ := strings.Cut(line, "#")
	return strings.FieldsFunc(text, func(r rune) bool { return strings.ContainsRune("\t\r \u00a0\u2003\u3000", r) })
}

// modelParse: P1501, sentence by sentence.
func modelParse(line string) reply {
	said := modelFields(line)
	switch {
	case len(line) > 256:
		return refused(api.ErrLong, -1)
	case len(said) == 0:
		return reply{at: -1}
	case kinds[said[0]] == 0:
		return refused(api.ErrVerb, 0)
	case said[0] == "noise" && len(said) == 1:
		return refused(api.ErrForm, 1)
	}
	for _, r := range rows {
		if len(said) >= len(r.head) && strings.Join(said[:len(r.head)], " ") == strings.Join(r.head, " ") {
			return r.parse(said)
		}
	}
	return refused(api.ErrWord, 1) // an act that is none
}

func (r row) parse(said []string) reply {
	c, at := r.base(), len(r.head)
	for _, p := range r.parts {
		if at == len(said) {
			return refused(api.ErrForm, at)
		}
		v, e := valueOf(p.kind, said[at])
		if e != api.OK {
			return refused(e, at)
		}
		put(&c, p.field, v)
		at++
	}
	if r.mark != "" {
		put(&c, r.field, !r.says)
		if at < len(said) && said[at] != r.mark {
			return refused(api.ErrWord, at)
		}
		if at < len(said) {
			put(&c, r.field, r.says)
			at++
		}
	}
	if at < len(said) {
		return refused(api.ErrForm, at)
	}
	return reply{c: c, at: -1}
}

// modelPrint: P1503, sentence by sentence.
func modelPrint(c api.Command) reply {
	if c.Kind < 1 || c.Kind > 20 {
		return refused(api.ErrVerb, -1)
	}
	for _, r := range rows {
		if r.kind == c.Kind && (c.Kind != api.CNoise || r.act == c.Noise.Act) {
			return r.print(c)
		}
	}
	return refused(api.ErrForm, -1) // an act that is none
}

func (r row) print(c api.Command) reply {
	said, had := r.head, map[string]bool{"Noise.Act": c.Kind == api.CNoise, r.field: true}
	for _, p := range r.parts {
		had[p.field] = true
		s, ok := textOf(p.kind, fieldAt(&c, p.field).Interface())
		if !ok {
			return refused(api.ErrForm, -1)
		}
		said = append(said[:len(said):len(said)], s)
	}
	for _, path := range leaves {
		if !had[path] && !fieldAt(&c, path).IsZero() {
			return refused(api.ErrForm, -1)
		}
	}
	if r.mark != "" && fieldAt(&c, r.field).Bool() == r.says {
		said = append(said[:len(said):len(said)], r.mark)
	}
	return reply{s: strings.Join(said, " "), at: -1}
}

func parsed(line string) reply {
	c, err := script.Parse(line)
	e, at := script.Code(err)
	return reply{c: c, e: e, at: at}
}

func printed(c api.Command) reply {
	s, err := script.Print(c)
	e, at := script.Code(err)
	return reply{s: s, e: e, at: at}
}

// checkLine: a line is parsed as the model parses it, and its command goes there and back (P1501, P1504).
func checkLine(t *testing.T, line string) {
	t.Helper()
	got, want := parsed(line), modelParse(line)
	if got != want {
		t.Fatalf("%q:\n got  %+v\n want %+v", line, got, want)
	}
	if got.e != api.OK || got.c.Kind == 0 {
		return
	}
	s := printed(got.c)
	if s.e != api.OK || s != modelPrint(got.c) {
		t.Fatalf("%q: printed %+v, want %+v", line, s, modelPrint(got.c))
	}
	if again := parsed(s.s); again != got {
		t.Fatalf("%q: printed %q, which is %+v", line, s.s, again)
	}
}

// checkCommand: a command is printed as the model prints it, and its line goes there and back (P1503, P1504).
func checkCommand(t *testing.T, c api.Command) {
	t.Helper()
	got, want := printed(c), modelPrint(c)
	if got != want {
		t.Fatalf("%+v:\n got  %+v\n want %+v", c, got, want)
	}
	if got.e != api.OK {
		return
	}
	if back := parsed(got.s); back != (reply{c: c, at: -1}) {
		t.Fatalf("%+v: printed %q, which is %+v", c, got.s, back)
	}
}
