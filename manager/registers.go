package manager

import (
	"atlas/api"
	"atlas/desc"
	"atlas/machine"
)

// The registers that a manager writes, and the operations by which it drops, as they are named to the coprocessor.
var (
	sctlr      = api.Tuple{CRn: 1}
	ttbr0      = api.Tuple{CRn: 2}
	ttbr1      = api.Tuple{CRn: 2, Op2: 1}
	ttbcr      = api.Tuple{CRn: 2, Op2: 2}
	dacr       = api.Tuple{CRn: 3}
	contextidr = api.Tuple{CRn: 13, Op2: 1}
	tlbiAll    = api.Tuple{CRn: 8, CRm: 7}
	tlbiAsid   = api.Tuple{CRn: 8, CRm: 7, Op2: 2}
)

// What stands in the kernel's frames: the first-level table of the upper part, and a root without a block, which is walked while no space is current.
const (
	upperTable = 0
	emptyRoot  = 0x4000
)

// clients: the domains 0 and 1 ask the permissions, all others bar everything.
const clients = 5

// walksOn: of SCTLR.
const walksOn = 1

// The kernel's view of the memory: for the kernel alone, which reads and writes there, normal memory, cached.
const (
	kernelAP   = 1
	kernelBits = 14
)

// megBytes: of the memory, in one Section of the kernel's view.
const megBytes = 1 << 20

// wordBytes: of a descriptor.
const wordBytes = 4

// layKernel: the memory stands in the upper part, MiB by MiB.
func layKernel(under *machine.Machine) {
	megs := uint64(under.Frames()) * api.FrameBytes / megBytes
	for i := range megs {
		b := api.Trans{
			Size: api.Section,
			VA:   uint32(api.KernelBase + megBytes*i),
			PA:   megBytes * i,
			Leaf: api.Leaf{AP: kernelAP, Bits: kernelBits, XN: true},
		}
		entry, _ := desc.Entry(b) // it is right
		w, _ := desc.Encode1(entry)
		under.Poke(upperTable+wordBytes*uint64(b.VA/megBytes), w)
	}
}

// turnOn: walks go through the tables from now on; what they could have kept of a time ahead of that is dropped.
func turnOn(under *machine.Machine, n int) {
	mcr(under, ttbcr, uint32(n))
	mcr(under, ttbr0, emptyRoot)
	mcr(under, ttbr1, upperTable)
	mcr(under, dacr, clients)
	mcr(under, contextidr, nobody)
	mcr(under, sctlr, walksOn)
	mcr(under, tlbiAll, 0)
}

// mcr: a register is written, or an operation asked for, by the kernel.
func mcr(under *machine.Machine, t api.Tuple, v uint32) { under.Mcr(t, v, false) }
