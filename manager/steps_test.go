package manager

import (
	"slices"
	"testing"

	"atlas/api"
	"atlas/cp15"
	"atlas/machine"
)

// TestBootSteps: F16.1: the steps of a Boot in their order; Boot itself leaves none of them to be seen.
func TestBootSteps(t *testing.T) {
	for _, megs := range []int{1, 2, 256} {
		under, _ := machine.New(api.Config{Frames: 256 * megs, I: 1, D: 1, Main: 1})
		layKernel(under)
		var want []api.Event
		for i := range uint32(megs) {
			want = append(want, api.Event{Kind: api.EvPoke, Addr: 4 * (3072 + uint64(i)), Value: i<<20 | 0x141e})
		}
		if got := under.Events(); !slices.Equal(got, want) {
			t.Fatalf("%d MiB: the steps are %x, not %x", megs, got, want)
		}
		turnOn(under, 3)
		want = []api.Event{
			{Kind: api.EvReg, Addr: 0x2002, Value: 3},
			{Kind: api.EvReg, Addr: 0x2000, Value: 0x4000},
			{Kind: api.EvReg, Addr: 0x2001, Value: 0},
			{Kind: api.EvReg, Addr: 0x3000, Value: 5},
			{Kind: api.EvReg, Addr: 0xd001, Value: 0},
			{Kind: api.EvReg, Addr: 0x1000, Value: 1},
			{Kind: api.EvDrop, Addr: api.TlbiAll, Value: 0},
		}
		if got := under.Events(); !slices.Equal(got, want) {
			t.Fatalf("%d MiB: the steps are %x, not %x", megs, got, want)
		}
	}
}

// TestNames: the tuples are those of chapter 8.
func TestNames(t *testing.T) {
	for tuple, want := range map[api.Tuple]int{
		sctlr: api.RegSCTLR, ttbr0: api.RegTTBR0, ttbr1: api.RegTTBR1, ttbcr: api.RegTTBCR, dacr: api.RegDACR, contextidr: api.RegContext,
	} {
		if reg, ok := cp15.Register(tuple); !ok || reg != want {
			t.Errorf("%v: %d, not %d", tuple, reg, want)
		}
	}
	if tlbiAll != (api.Tuple{CRn: 8, CRm: 7}) || tlbiAsid != (api.Tuple{CRn: 8, CRm: 7, Op2: 2}) {
		t.Errorf("%v, %v", tlbiAll, tlbiAsid)
	}
}
