package ram_test

import (
	"bytes"
	"math"
	"math/rand"
	"slices"
	"testing"

	"atlas/api"
	"atlas/ram"
)

const last = math.MaxUint64

// A *Ram is an api.Words.
var _ api.Words = (*ram.Ram)(nil)

func made(t *testing.T, frames int) *ram.Ram {
	t.Helper()
	m, e := ram.New(frames)
	if m == nil || e != api.OK {
		t.Fatalf("New(%d) = %v, %d", frames, m, e)
	}
	return m
}

// plain is the slow memory that the package is held against: all of its bytes, one behind another.
type plain []byte

func (p plain) clone() plain { return slices.Clone(p) }

func (p plain) frame(n int) []byte { return p[n*api.FrameBytes : (n+1)*api.FrameBytes] }

func (p plain) touched() []int {
	var l []int
	for n := range len(p) / api.FrameBytes {
		if slices.ContainsFunc(p.frame(n), func(b byte) bool { return b != 0 }) {
			l = append(l, n)
		}
	}
	return l
}

// span: the bytes from pa on, or none if one of them is beyond the memory.
func (p plain) span(pa uint64, n int) ([]byte, bool) {
	if pa > uint64(len(p)) || n > len(p)-int(pa) {
		return nil, false
	}
	return p[pa:][:n], true
}

// place: the bytes of a value, or what a call for them answers.
func (p plain) place(pa uint64, width int) ([]byte, api.Errno) {
	if pa%uint64(width) != 0 {
		return nil, api.ErrAlign
	}
	b, ok := p.span(pa, width)
	if !ok {
		return nil, api.ErrBus
	}
	return b, api.OK
}

// number: bytes with the lowest first.
func number(b []byte) uint32 {
	v := uint32(0)
	for _, x := range slices.Backward(b) {
		v = v<<8 | uint32(x)
	}
	return v
}

func lay(b []byte, v uint32) {
	for i := range b {
		b[i] = byte(v)
		v >>= 8
	}
}

// get: Byte, Half or Word, by the width.
func get(m *ram.Ram, pa uint64, width int) (uint32, api.Errno) {
	switch width {
	case 1:
		v, e := m.Byte(pa)
		return uint32(v), e
	case 2:
		v, e := m.Half(pa)
		return uint32(v), e
	}
	return m.Word(pa)
}

// set: SetByte, SetHalf or SetWord, by the width.
func set(m *ram.Ram, pa uint64, width int, v uint32) api.Errno {
	switch width {
	case 1:
		return m.SetByte(pa, uint8(v))
	case 2:
		return m.SetHalf(pa, uint16(v))
	}
	return m.SetWord(pa, v)
}

// same holds all that a memory tells against the slow one.
func same(t *testing.T, m *ram.Ram, p plain) {
	t.Helper()
	if m.Frames()*api.FrameBytes != len(p) {
		t.Fatalf("Frames() = %d, want %d bytes", m.Frames(), len(p))
	}
	b, e := m.Read(0, len(p))
	if e != api.OK || !bytes.Equal(b, p) {
		t.Fatalf("the memory's bytes are not those that were written: %d", e)
	}
	if got, want := m.Touched(), p.touched(); !slices.Equal(got, want) {
		t.Fatalf("Touched() = %v, want %v", got, want)
	}
}

// sameValues holds each value of the memory, and those beyond its end, against the slow one.
func sameValues(t *testing.T, m *ram.Ram, p plain) {
	t.Helper()
	for _, width := range []int{1, 2, 4} {
		for pa := range uint64(len(p)) + 9 {
			sameValue(t, m, p, pa, width)
		}
		for back := range uint64(9) {
			sameValue(t, m, p, last-back, width)
		}
	}
}

func sameValue(t *testing.T, m *ram.Ram, p plain, pa uint64, width int) {
	t.Helper()
	b, want := p.place(pa, width)
	v, e := get(m, pa, width)
	if e != want || v != number(b) {
		t.Fatalf("%d bytes at %#x = %#x, %d, want %#x, %d", width, pa, v, e, number(b), want)
	}
}

// filled: a memory of so many frames with bytes of chance, and the slow one.
func filled(t *testing.T, frames int) (*ram.Ram, plain) {
	t.Helper()
	m, p := made(t, frames), make(plain, frames*api.FrameBytes)
	rand.New(rand.NewSource(int64(frames))).Read(p)
	if e := m.Write(0, p.clone()); e != api.OK {
		t.Fatal(e)
	}
	same(t, m, p)
	return m, p
}

// P301.
func TestNewRefusesNumbersOfFramesThatNoMemoryHas(t *testing.T) {
	for _, n := range []int{math.MinInt, -65536, -1, 0, 65537, 1 << 20, 1 << 32, 1<<32 + 1, math.MaxInt} {
		if m, e := ram.New(n); m != nil || e != api.ErrArg {
			t.Errorf("New(%d) = %v, %d", n, m, e)
		}
	}
}

// P301.
func TestFramesIsWhatNewWasGiven(t *testing.T) {
	for _, n := range []int{1, 2, 255, 256, 65535, 65536} {
		m := made(t, n)
		if m.Frames() != n {
			t.Errorf("New(%d) has %d frames", n, m.Frames())
		}
		if l := m.Touched(); len(l) != 0 {
			t.Errorf("New(%d): Touched() = %v", n, l)
		}
		end := uint64(n) * api.FrameBytes
		m.SetByte(end-1, 1)
		m.Wipe(n - 1)
		if m.Frames() != n || m.Clone().Frames() != n {
			t.Errorf("New(%d) has %d frames behind calls", n, m.Frames())
		}
	}
}

// P301, P307: behind New all bytes are 0.
func TestNewIsAllZero(t *testing.T) {
	for _, n := range []int{1, 2, 3} {
		m := made(t, n)
		same(t, m, make(plain, n*api.FrameBytes))
		sameValues(t, m, make(plain, n*api.FrameBytes))
	}
}

// The chapter's examples.
func TestExampleOne(t *testing.T) {
	m := made(t, 2)
	if e := m.SetWord(4, 0x11223344); e != api.OK {
		t.Fatal(e)
	}
	if v, e := m.Byte(4); v != 0x44 || e != api.OK {
		t.Error(v, e)
	}
	if v, e := m.Half(6); v != 0x1122 || e != api.OK {
		t.Error(v, e)
	}
	if v, e := m.Word(4); v != 0x11223344 || e != api.OK {
		t.Error(v, e)
	}
	if l := m.Touched(); !slices.Equal(l, []int{0}) {
		t.Error(l)
	}
}

func TestExampleTwo(t *testing.T) {
	m := made(t, 2)
	for _, c := range []struct {
		width int
		pa    uint64
		want  api.Errno
	}{
		{4, 2, api.ErrAlign},
		{4, 8190, api.ErrAlign},
		{4, 8192, api.ErrBus},
		{1, 8191, api.OK},
		{1, 8192, api.ErrBus},
		{2, 18446744073709551615, api.ErrAlign},
		{2, 18446744073709551614, api.ErrBus},
	} {
		if v, e := get(m, c.pa, c.width); v != 0 || e != c.want {
			t.Errorf("%+v: %d, %d", c, v, e)
		}
	}
}

func TestExampleThree(t *testing.T) {
	m := made(t, 2)
	for _, c := range []struct {
		pa   uint64
		n    int
		want []byte
		e    api.Errno
	}{
		{8190, 2, []byte{0, 0}, api.OK},
		{8190, 3, nil, api.ErrBus},
		{8192, 0, nil, api.OK},
		{8193, 0, nil, api.ErrBus},
		{0, -1, nil, api.ErrArg},
	} {
		if b, e := m.Read(c.pa, c.n); !slices.Equal(b, c.want) || e != c.e {
			t.Errorf("%+v: %v, %d", c, b, e)
		}
	}
}

func TestExampleFour(t *testing.T) {
	m := made(t, 2)
	if e := m.Write(4094, []byte{1, 2, 3, 4}); e != api.OK || !slices.Equal(m.Touched(), []int{0, 1}) {
		t.Fatal(e, m.Touched())
	}
	if e := m.Wipe(0); e != api.OK || !slices.Equal(m.Touched(), []int{1}) {
		t.Error(e, m.Touched())
	}
	if v, e := m.Half(4096); v != 0x0403 || e != api.OK {
		t.Error(v, e)
	}
	if e := m.Wipe(2); e != api.ErrBus {
		t.Error(e)
	}
}

// P302: the lowest byte first, at every place of a frame.
func TestValuesAreTheirBytesWithTheLowestFirst(t *testing.T) {
	m, p := filled(t, 2)
	sameValues(t, m, p)
}

// P302: a value that is written is all that changes.
func TestSetChangesTheBytesOfTheValueAlone(t *testing.T) {
	for _, width := range []int{1, 2, 4} {
		for _, pa := range []uint64{0, 4, 8, 4092, 4096, 4100, 8188} {
			for _, v := range []uint32{0, 1, 0x80, 0x100, 0xff00ff, 0x81828384, math.MaxUint32} {
				m, p := filled(t, 2)
				if e := set(m, pa, width, v); e != api.OK {
					t.Fatal(width, pa, v, e)
				}
				b, _ := p.place(pa, width)
				lay(b, v)
				same(t, m, p)
			}
		}
	}
}

// P302: values that begin in the middle of a word.
func TestHalvesAndBytesWithinAWord(t *testing.T) {
	m := made(t, 1)
	for at, v := range []uint8{0x80, 0x91, 0xa2, 0xb3} {
		m.SetByte(uint64(4092+at), v)
	}
	if w, e := m.Word(4092); w != 0xb3a29180 || e != api.OK {
		t.Errorf("%#x, %d", w, e)
	}
	m.SetHalf(4094, 0xfeed)
	if w, e := m.Word(4092); w != 0xfeed9180 || e != api.OK {
		t.Errorf("%#x, %d", w, e)
	}
	if h, e := m.Half(4092); h != 0x9180 || e != api.OK {
		t.Errorf("%#x, %d", h, e)
	}
	if b, e := m.Byte(4095); b != 0xfe || e != api.OK {
		t.Errorf("%#x, %d", b, e)
	}
}

// P302: ErrAlign ahead of ErrBus, the same for what is read and what is written, which changes nothing.
func TestValuesThatAreRefused(t *testing.T) {
	m, p := filled(t, 2)
	for _, c := range []struct {
		width int
		pa    uint64
		want  api.Errno
	}{
		{1, 8192, api.ErrBus}, {1, 8193, api.ErrBus}, {1, 1 << 28, api.ErrBus}, {1, 1 << 32, api.ErrBus},
		{1, 1<<32 + 4096, api.ErrBus}, {1, 1 << 63, api.ErrBus}, {1, last, api.ErrBus},
		{2, 1, api.ErrAlign}, {2, 8191, api.ErrAlign}, {2, 8192, api.ErrBus}, {2, 8193, api.ErrAlign},
		{2, last, api.ErrAlign}, {2, last - 1, api.ErrBus}, {2, 1 << 32, api.ErrBus},
		{4, 1, api.ErrAlign}, {4, 2, api.ErrAlign}, {4, 3, api.ErrAlign}, {4, 4094, api.ErrAlign},
		{4, 8189, api.ErrAlign}, {4, 8190, api.ErrAlign}, {4, 8191, api.ErrAlign}, {4, 8192, api.ErrBus},
		{4, 8194, api.ErrAlign}, {4, 8196, api.ErrBus}, {4, last, api.ErrAlign}, {4, last - 1, api.ErrAlign},
		{4, last - 2, api.ErrAlign}, {4, last - 3, api.ErrBus}, {4, 1 << 32, api.ErrBus},
	} {
		if v, e := get(m, c.pa, c.width); v != 0 || e != c.want {
			t.Errorf("%+v: %#x, %d", c, v, e)
		}
		if e := set(m, c.pa, c.width, 0x5a5a5a5a); e != c.want {
			t.Errorf("%+v: set: %d", c, e)
		}
	}
	same(t, m, p)
}

// P301, P302: the end of the greatest memory, and of the smallest one.
func TestTheEndOfTheMemory(t *testing.T) {
	for _, frames := range []int{1, 65536} {
		m, end := made(t, frames), uint64(frames)*api.FrameBytes
		for _, width := range []int{1, 2, 4} {
			if e := set(m, end-uint64(width), width, 0x81828384); e != api.OK {
				t.Error(frames, width, e)
			}
			if e := set(m, end, width, 1); e != api.ErrBus {
				t.Error(frames, width, e)
			}
			if v, e := get(m, end, width); v != 0 || e != api.ErrBus {
				t.Error(frames, width, v, e)
			}
		}
		if v, e := m.Word(end - 4); v != 0x81828384 || e != api.OK {
			t.Errorf("%d: %#x, %d", frames, v, e)
		}
		if l := m.Touched(); !slices.Equal(l, []int{frames - 1}) {
			t.Error(frames, l)
		}
		if b, e := m.Read(end-2, 2); !slices.Equal(b, []byte{0x82, 0x81}) || e != api.OK {
			t.Error(frames, b, e)
		}
		if b, e := m.Read(end-2, 3); b != nil || e != api.ErrBus {
			t.Error(frames, b, e)
		}
		if e := m.Write(end-1, []byte{1, 2}); e != api.ErrBus {
			t.Error(frames, e)
		}
		if e := m.Wipe(frames - 1); e != api.OK || len(m.Touched()) != 0 {
			t.Error(frames, e, m.Touched())
		}
	}
}

// P303: bytes within one frame, across two, and across all.
func TestReadAndWriteAcrossFrames(t *testing.T) {
	const frames, size = 4, 4 * api.FrameBytes
	full := make([]byte, size)
	rand.New(rand.NewSource(5)).Read(full)
	for _, pa := range []int{0, 1, 4095, 4096, 4097, 8190, 12287, 16383, 16384} {
		for _, n := range []int{0, 1, 2, 3, 4095, 4096, 4097, 8191, 8192, 8193, 16383, 16384} {
			m, p := filled(t, frames)
			want := api.OK
			if pa+n > size {
				want = api.ErrBus
			} else {
				copy(p[pa:], full[:n])
			}
			if e := m.Write(uint64(pa), full[:n]); e != want {
				t.Fatalf("Write(%d, %d bytes) = %d, want %d", pa, n, e, want)
			}
			same(t, m, p)
			b, e := m.Read(uint64(pa), n)
			if e != want || want == api.OK && !bytes.Equal(b, full[:n]) || want != api.OK && b != nil {
				t.Fatalf("Read(%d, %d) = %d bytes, %d, want %d", pa, n, len(b), e, want)
			}
		}
	}
}

// P303: what is refused, ErrArg ahead of ErrBus.
func TestReadThatIsRefused(t *testing.T) {
	m, _ := filled(t, 2)
	for _, c := range []struct {
		pa   uint64
		n    int
		want api.Errno
	}{
		{0, -1, api.ErrArg}, {0, math.MinInt, api.ErrArg}, {8192, -1, api.ErrArg}, {8193, -1, api.ErrArg},
		{last, -1, api.ErrArg}, {last, math.MinInt, api.ErrArg},
		{8191, 2, api.ErrBus}, {8192, 1, api.ErrBus}, {8193, 0, api.ErrBus}, {8193, 1, api.ErrBus},
		{0, 8193, api.ErrBus}, {1, 8192, api.ErrBus}, {0, math.MaxInt, api.ErrBus}, {8192, math.MaxInt, api.ErrBus},
		{last, 0, api.ErrBus}, {last, 1, api.ErrBus}, {last, 2, api.ErrBus}, {last, math.MaxInt, api.ErrBus},
		{last - 1, 2, api.ErrBus}, {last - 4095, 4096, api.ErrBus}, {last - 4095, 4097, api.ErrBus},
		{1 << 63, 0, api.ErrBus}, {1 << 63, math.MaxInt, api.ErrBus}, {1<<63 + 1, math.MaxInt, api.ErrBus},
		{1 << 32, 0, api.ErrBus}, {1 << 32, 4, api.ErrBus},
	} {
		if b, e := m.Read(c.pa, c.n); b != nil || e != c.want {
			t.Errorf("%+v: %d bytes, %d", c, len(b), e)
		}
	}
}

// P303: a Write that is refused changes nothing, of the bytes that the memory has neither.
func TestWriteThatIsRefusedChangesNothing(t *testing.T) {
	m, p := filled(t, 2)
	for _, c := range []struct {
		pa uint64
		n  int
	}{
		{0, 8193}, {1, 8192}, {4095, 4098}, {8190, 3}, {8191, 2}, {8192, 1}, {8193, 0}, {8193, 1}, {1 << 32, 0}, {1 << 32, 4},
		{1 << 63, 8}, {last, 0}, {last, 1}, {last, 2}, {last - 1, 4}, {last - 4095, 4096}, {last - 4095, 8192},
	} {
		if e := m.Write(c.pa, bytes.Repeat([]byte{0xa5}, c.n)); e != api.ErrBus {
			t.Errorf("%+v: %d", c, e)
		}
		if e := m.Write(c.pa, make([]byte, c.n)); e != api.ErrBus {
			t.Errorf("%+v: zeros: %d", c, e)
		}
	}
	same(t, m, p)
}

// P303: no bytes, up to the number of the memory's bytes.
func TestNoBytesAreReadAndWritten(t *testing.T) {
	m, p := filled(t, 2)
	for _, pa := range []uint64{0, 1, 4096, 8191, 8192} {
		if b, e := m.Read(pa, 0); len(b) != 0 || e != api.OK {
			t.Error(pa, b, e)
		}
		if e := m.Write(pa, nil); e != api.OK {
			t.Error(pa, e)
		}
		if e := m.Write(pa, []byte{}); e != api.OK {
			t.Error(pa, e)
		}
	}
	same(t, m, p)
}

// P304.
func TestWipe(t *testing.T) {
	for frame := range 3 {
		m, p := filled(t, 3)
		for range 2 {
			if e := m.Wipe(frame); e != api.OK {
				t.Error(frame, e)
			}
			clear(p.frame(frame))
			same(t, m, p)
		}
	}
}

// P304: out of range nothing changes.
func TestWipeOutOfRange(t *testing.T) {
	m, p := filled(t, 3)
	for _, frame := range []int{math.MinInt, -65536, -1, 3, 4, 65535, 65536, 1 << 32, 1<<52 + 1, math.MaxInt} {
		if e := m.Wipe(frame); e != api.ErrBus {
			t.Errorf("Wipe(%d) = %d", frame, e)
		}
	}
	same(t, m, p)
}

// P304, P307: what stood in a frame that was wiped does not come back with what is written next.
func TestAWipedFrameIsWrittenAnew(t *testing.T) {
	m, p := filled(t, 2)
	m.Wipe(1)
	clear(p.frame(1))
	m.SetByte(5000, 9)
	p[5000] = 9
	same(t, m, p)
}

// P305: rising, whatever was written first.
func TestTouchedRises(t *testing.T) {
	m := made(t, 300)
	var want []int
	for _, n := range rand.New(rand.NewSource(7)).Perm(300)[:200] {
		m.SetByte(uint64(n)*api.FrameBytes+uint64(n), 1)
		want = append(want, n)
	}
	slices.Sort(want)
	for range 20 {
		if l := m.Touched(); !slices.Equal(l, want) {
			t.Fatal(l)
		}
	}
}

// P305: one byte counts, the first one and the last one too.
func TestOneByteTouches(t *testing.T) {
	for _, pa := range []uint64{4096, 4097, 6000, 8190, 8191} {
		for _, v := range []uint8{1, 0x80, 0xff} {
			m := made(t, 3)
			m.SetByte(pa, v)
			if l := m.Touched(); !slices.Equal(l, []int{1}) {
				t.Error(pa, v, l)
			}
		}
	}
}

// P305: zeros again, whichever way they came.
func TestAFrameOfZerosIsNotTouched(t *testing.T) {
	ways := map[string]func(*ram.Ram){
		"SetByte": func(m *ram.Ram) {
			for pa := range uint64(api.FrameBytes) {
				m.SetByte(api.FrameBytes+pa, 0)
			}
		},
		"SetHalf": func(m *ram.Ram) {
			for pa := uint64(0); pa < api.FrameBytes; pa += 2 {
				m.SetHalf(api.FrameBytes+pa, 0)
			}
		},
		"SetWord": func(m *ram.Ram) {
			for pa := uint64(0); pa < api.FrameBytes; pa += 4 {
				m.SetWord(api.FrameBytes+pa, 0)
			}
		},
		"Write": func(m *ram.Ram) { m.Write(api.FrameBytes, make([]byte, api.FrameBytes)) },
		"Wipe":  func(m *ram.Ram) { m.Wipe(1) },
	}
	for name, zero := range ways {
		m, p := filled(t, 3)
		zero(m)
		clear(p.frame(1))
		same(t, m, p)
		m.SetByte(8191, 3)
		p[8191] = 3
		same(t, m, p)
		m.SetByte(8191, 0)
		p[8191] = 0
		same(t, m, p)
		if l := m.Clone().Touched(); !slices.Equal(l, []int{0, 2}) {
			t.Error(name, l)
		}
	}
}

// P305: zeros that are written where zeros are touch nothing.
func TestZerosTouchNothing(t *testing.T) {
	m := made(t, 4)
	m.SetByte(1, 0)
	m.SetHalf(4096, 0)
	m.SetWord(8192, 0)
	m.Write(0, make([]byte, 4*api.FrameBytes))
	same(t, m, make(plain, 4*api.FrameBytes))
	m.Write(4094, []byte{0, 0, 0, 0, 0, 5})
	if l := m.Touched(); !slices.Equal(l, []int{1}) {
		t.Error(l)
	}
}

// P306: what is written to one is not seen in the other, whichever was written.
func TestCloneSharesNothing(t *testing.T) {
	m, p := filled(t, 3)
	m.Wipe(1)
	clear(p.frame(1))
	c, q := m.Clone(), p.clone()
	same(t, c, q)
	m.SetWord(0, 0x01020304)
	lay(p[0:4], 0x01020304)
	m.SetByte(4096, 1)
	p[4096] = 1
	m.Wipe(2)
	clear(p.frame(2))
	same(t, m, p)
	same(t, c, q)
	c.SetHalf(100, 0xaabb)
	lay(q[100:102], 0xaabb)
	c.Wipe(0)
	clear(q.frame(0))
	c.Write(4095, []byte{7, 7, 7})
	copy(q[4095:], []byte{7, 7, 7})
	same(t, m, p)
	same(t, c, q)
}

// P306: of the smallest, of an empty one, of the greatest, and of a clone.
func TestCloneOfOthers(t *testing.T) {
	for _, frames := range []int{1, 2, 65536} {
		m := made(t, frames)
		c := m.Clone()
		if c.Frames() != frames || len(c.Touched()) != 0 {
			t.Error(frames, c.Frames(), c.Touched())
		}
		end := uint64(frames) * api.FrameBytes
		if e := c.SetByte(end-1, 1); e != api.OK {
			t.Error(frames, e)
		}
		if e := c.SetByte(end, 1); e != api.ErrBus {
			t.Error(frames, e)
		}
		d := c.Clone()
		c.Wipe(frames - 1)
		if len(m.Touched()) != 0 || len(c.Touched()) != 0 || !slices.Equal(d.Touched(), []int{frames - 1}) {
			t.Error(frames, m.Touched(), c.Touched(), d.Touched())
		}
	}
}

// P307: memories that are made apart are apart.
func TestTwoMemoriesShareNothing(t *testing.T) {
	a, b := made(t, 2), made(t, 2)
	a.SetWord(4096, 0x01020304)
	same(t, b, make(plain, 2*api.FrameBytes))
	b.SetWord(4096, 0x05060708)
	a.Wipe(1)
	if v, e := b.Word(4096); v != 0x05060708 || e != api.OK {
		t.Errorf("%#x, %d", v, e)
	}
}

// P307: any calls, on several memories of unlike sizes and on clones of them, against bytes in a row.
func TestAnyCalls(t *testing.T) {
	for seed := range int64(40) {
		c := chance{t: t, r: rand.New(rand.NewSource(seed))}
		c.begin(1 + int(seed)%4)
		c.begin(2)
		for range 300 {
			c.step()
		}
		for i := range c.rams {
			sameValues(t, c.rams[i], c.plains[i])
		}
	}
}

// chance gives memories steps by chance, and holds each against a slow one.
type chance struct {
	t      *testing.T
	r      *rand.Rand
	rams   []*ram.Ram
	plains []plain
}

func (c *chance) begin(frames int) {
	c.rams = append(c.rams, made(c.t, frames))
	c.plains = append(c.plains, make(plain, frames*api.FrameBytes))
}

// address: near an edge of a frame, most often of one that the memory has.
func (c *chance) address() uint64 {
	at := uint64(c.r.Intn(6)*api.FrameBytes) + uint64(c.r.Intn(9)) - 4
	if c.r.Intn(30) == 0 {
		at += uint64(c.r.Intn(16)) << 60
	}
	return at
}

// bytes: often zeros, often few.
func (c *chance) bytes() []byte {
	n := c.r.Intn(8)
	if c.r.Intn(4) == 0 {
		n = api.FrameBytes*c.r.Intn(3) + c.r.Intn(8)
	}
	b := make([]byte, n)
	if c.r.Intn(2) == 0 {
		c.r.Read(b)
	}
	return b
}

func (c *chance) step() {
	c.t.Helper()
	i := c.r.Intn(len(c.rams))
	m, p := c.rams[i], c.plains[i]
	switch c.r.Intn(8) {
	case 0, 1, 2:
		c.set(m, p)
	case 3, 4:
		c.write(m, p)
	case 5:
		c.read(m, p)
	case 6:
		c.wipe(m, p)
	case 7:
		j := c.r.Intn(3)
		if j < len(c.rams) {
			c.rams[j], c.plains[j] = m.Clone(), p.clone()
		} else {
			c.rams, c.plains = append(c.rams, m.Clone()), append(c.plains, p.clone())
		}
	}
	for i := range c.rams {
		same(c.t, c.rams[i], c.plains[i])
	}
}

func (c *chance) set(m *ram.Ram, p plain) {
	c.t.Helper()
	pa, width, v := c.address(), 1<<c.r.Intn(3), c.r.Uint32()
	if c.r.Intn(3) == 0 {
		v = 0
	}
	b, want := p.place(pa, width)
	lay(b, v)
	if e := set(m, pa, width, v); e != want {
		c.t.Fatalf("%d bytes set at %#x = %d, want %d", width, pa, e, want)
	}
}

func (c *chance) write(m *ram.Ram, p plain) {
	c.t.Helper()
	pa, b, want := c.address(), c.bytes(), api.ErrBus
	if to, ok := p.span(pa, len(b)); ok {
		copy(to, b)
		want = api.OK
	}
	if e := m.Write(pa, b); e != want {
		c.t.Fatalf("Write(%#x, %d bytes) = %d, want %d", pa, len(b), e, want)
	}
}

func (c *chance) read(m *ram.Ram, p plain) {
	c.t.Helper()
	pa, n, want := c.address(), len(c.bytes()), api.ErrBus
	from, ok := p.span(pa, n)
	if ok {
		want = api.OK
	}
	if b, e := m.Read(pa, n); e != want || !bytes.Equal(b, from) {
		c.t.Fatalf("Read(%#x, %d) = %v, %d, want %v, %d", pa, n, b, e, from, want)
	}
}

func (c *chance) wipe(m *ram.Ram, p plain) {
	c.t.Helper()
	frame, want := c.r.Intn(7)-1, api.ErrBus
	if frame >= 0 && frame < m.Frames() {
		clear(p.frame(frame))
		want = api.OK
	}
	if e := m.Wipe(frame); e != want {
		c.t.Fatalf("Wipe(%d) = %d, want %d", frame, e, want)
	}
}

// spoil writes into all of a list, its spare room too.
func spoil[E any](l []E, v E) {
	l = l[:cap(l)]
	for i := range l {
		l[i] = v
	}
}

// Rule 4: what Read hands out is new memory.
func TestReadHandsOutNewMemory(t *testing.T) {
	m, p := filled(t, 3)
	for _, c := range []struct {
		pa uint64
		n  int
	}{{0, 0}, {0, 1}, {4094, 4}, {4096, 4096}, {4096, 100}, {0, 12288}, {12288, 0}} {
		b, e := m.Read(c.pa, c.n)
		again, _ := m.Read(c.pa, c.n)
		if e != api.OK {
			t.Fatal(c, e)
		}
		spoil(b, 0x5a)
		same(t, m, p)
		want, _ := p.span(c.pa, c.n)
		if !bytes.Equal(again, want) {
			t.Errorf("%+v: two answers share memory", c)
		}
	}
}

// Rule 4: what was handed out does not change with the memory.
func TestWhatWasReadStays(t *testing.T) {
	m, p := filled(t, 2)
	b, _ := m.Read(4096, 4096)
	l := m.Touched()
	m.SetWord(4096, 0)
	m.Write(4096, make([]byte, 4096))
	m.Wipe(0)
	if !bytes.Equal(b, p.frame(1)) || !slices.Equal(l, []int{0, 1}) {
		t.Error("what was handed out has changed")
	}
}

// Rule 4: what Touched hands out is new memory.
func TestTouchedHandsOutNewMemory(t *testing.T) {
	m, p := filled(t, 3)
	l, again := m.Touched(), m.Touched()
	spoil(l, 77)
	if !slices.Equal(again, []int{0, 1, 2}) {
		t.Error(again)
	}
	same(t, m, p)
}

// Rule 4: what Write is handed is neither changed, its spare room neither, nor kept.
func TestWriteKeepsAndChangesNothingOfItsBytes(t *testing.T) {
	for _, c := range []struct {
		pa uint64
		n  int
		e  api.Errno
	}{{0, 4096, api.OK}, {4096, 4096, api.OK}, {4000, 200, api.OK}, {0, 8192, api.OK}, {1, 8192, api.ErrBus}, {4096, 0, api.OK}} {
		m, p := filled(t, 2)
		whole := bytes.Repeat([]byte{0xc3}, c.n+5000)
		if e := m.Write(c.pa, whole[:c.n]); e != c.e {
			t.Fatal(c, e)
		}
		if c.e == api.OK {
			copy(p[c.pa:], whole[:c.n])
		}
		if !bytes.Equal(whole, bytes.Repeat([]byte{0xc3}, c.n+5000)) {
			t.Errorf("%+v: what was handed in has changed", c)
		}
		spoil(whole, 0x11)
		same(t, m, p)
		m.SetByte(4095, 0x22)
		m.SetByte(4097, 0x22)
		if !bytes.Equal(whole, bytes.Repeat([]byte{0x11}, c.n+5000)) {
			t.Errorf("%+v: the memory is what was handed in", c)
		}
	}
}
