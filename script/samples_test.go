package script_test

import (
	"math"
	"strings"

	"atlas/api"
)

// greek: a name of 16 runes beyond ASCII, of two bytes each.
const greek = "ΑΒΓΔΕΖΗΘαβγδεζηθ"

const (
	max32 = math.MaxUint32
	max40 = 1<<40 - 1
)

// goodWords: words of that kind, both ends of its range among them. The first one says what is not zero.
func goodWords(kind string) []string {
	switch kind {
	case "NAME":
		return []string{"ada", "a", "böb", "Ωmega_9", "Z_", "map", "priv", "abcdefghijklmnop", greek}
	case "NAME-":
		return append([]string{"ada", "-"}, goodWords("NAME")...)
	case "NUM":
		return []string{"5", "0", "000", "1", "16", "1_000", "0x1F", "0x0_f", "2147483647", "2_147_483_647", "0x7fffffff", "0x0007fff_FFFF"}
	case "WORD":
		return []string{"4097", "0", "0x0", "007", "0x10_00", "2147483648", "0x80000000", "4294967295", "0xffffffff", "0xFFFF_ffff"}
	case "LONG":
		return []string{"8192", "0", "0x0", "4294967296", "0x1_0000_0000", "0x8000000000", "1099511627775", "0xffffffffff", "0xff_FFFF_ffff"}
	case "CR":
		return []string{"3", "0", "7", "8", "15", "0xf", "0xF", "1_5", "0x0000f"}
	case "OP":
		return []string{"2", "0", "7", "0x7", "0x0_7", "0007"}
	case "SIZE":
		return []string{"64k", "4k", "1m", "16m"}
	case "RIGHTS":
		return []string{"rwx", "---", "r--", "-w-", "--x", "rw-", "r-x", "-wx"}
	case "TLB":
		return []string{"d", "i", "main"}
	case "HOW":
		return []string{"fetch", "load"}
	}
	panic(kind)
}

// notNumbers: what writes no number at all, or one beyond 2 to the 40th.
var notNumbers = []string{"x", "-", "-1", "+1", "0x", "0X1", "_1", "1_", "1__2", "0x_1", "0x1_", "1k", "1.0", "1e3", "0b1", "0o7", "fetch", "priv", "\xff", "١",
	"1099511627776", "0x10000000000", "0x100_0000_0000", "18446744073709551615", "18446744073709551616", "0x10000000000000000", "0x1" + strings.Repeat("0", 40)}

// badWords: words that are not of that kind, with the error.
func badWords(kind string) ([]string, api.Errno) {
	beyond := func(l ...string) ([]string, api.Errno) {
		return append(l, notNumbers...), api.ErrNumber
	}
	names := []string{"--", "9a", "_a", "0x10", "a-b", "a.b", "×", "÷", "a\xff", "\xff", "a\ufffd", "a\n", "abcdefghijklmnopq", greek + "i", "4k*", "*"}
	switch kind {
	case "NAME":
		return append(names, "-"), api.ErrName
	case "NAME-":
		return names, api.ErrName
	case "NUM":
		return beyond("2147483648", "0x80000000", "4294967295", "4294967296", "4294967297", "0x100000005", "1099511627775")
	case "WORD":
		return beyond("4294967296", "0x100000000", "0x1_0000_0001", "1099511627775", "0x8000000000")
	case "LONG":
		return beyond()
	case "CR":
		return beyond("16", "0x10", "17", "31", "256", "271", "2147483647", "4294967296", "0xffffffffff")
	case "OP":
		return beyond("8", "0x8", "9", "15", "16", "256", "4294967296", "0xffffffffff")
	case "SIZE":
		return []string{"64K", "4K", "1M", "k", "4", "2", "0", "04k", "4kk", "1g", "64kb", "-", "\xff"}, api.ErrWord
	case "RIGHTS":
		return []string{"rw", "r", "rwx-", "rwxx", "wr-", "xwr", "RWX", "r-w", "--", "----", "7", "rwé", "-\xff-"}, api.ErrWord
	case "TLB":
		return []string{"I", "D", "Main", "m", "mai", "mains", "1", "3", "id", "-", "tlb", "none"}, api.ErrWord
	case "HOW":
		return []string{"Fetch", "LOAD", "store", "f", "loads", "true", "0", "1", "-"}, api.ErrWord
	}
	panic(kind)
}

// badMarks: words that may not stand where the mark may.
func badMarks(mark string) []string {
	l := []string{strings.ToUpper(mark), mark + "s", mark[1:], "-", "0", "1", "true", "\xff", "[" + mark + "]"}
	for _, m := range []string{"first", "priv", "user"} {
		if m != mark {
			l = append(l, m)
		}
	}
	return l
}

// values: of a field of that path, such as some word gives and such as none does.
func values(path string) []any {
	var l []any
	switch path {
	case "Name", "Other":
		for _, kind := range []string{"NAME", "NAME-"} {
			bad, _ := badWords(kind)
			for _, s := range append(goodWords(kind), bad...) {
				l = append(l, s)
			}
		}
		for _, s := range []string{"", " ", "a b", " a", "a ", "a\t", "\u00a0a", "a\u3000", "a#", "#", "a#b", "ada 0x1", "ada 0x1 4k 1 r-- #", "a\x00", strings.Repeat("a", 300), strings.Repeat("ö", 17)} {
			l = append(l, s)
		}
	case "VA", "From", "Value", "Noise.VA":
		for _, v := range []uint32{0, 1, 15, 16, 4096, 1<<31 - 1, 1 << 31, max32 - 1, max32} {
			l = append(l, v)
		}
	case "Len", "PA":
		for _, v := range []uint64{0, 1, 4096, 1<<31 - 1, 1 << 31, max32, 1 << 32, max40 - 1, max40, 1 << 40, 1<<40 + 1, 1 << 63, math.MaxUint64} {
			l = append(l, v)
		}
	case "Rights":
		for i := range 8 {
			l = append(l, api.Rights{Read: i&1 != 0, Write: i&2 != 0, Exec: i&4 != 0})
		}
	case "Priv", "Noise.Fetch", "Noise.MainFirst":
		l = append(l, false, true)
	default:
		for _, v := range []int{math.MinInt, math.MinInt + 1, math.MinInt32, -256, -16, -2, -1, 0, 1, 2, 3, 4, 5, 6, 7, 8, 9, 14, 15, 16, 17, 255, 256, 1<<31 - 1, 1 << 31, max32, 1 << 32, 1<<32 + 1, max40, 1 << 40, math.MaxInt - 1, math.MaxInt} {
			l = append(l, v)
		}
	}
	return l
}
