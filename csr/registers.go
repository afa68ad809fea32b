package csr

import (
	"math"
	"sync"

	"ravelin/api"
)

// Numbers of registers.
const (
	sstatus    = 0x100
	sie        = 0x104
	stvec      = 0x105
	scounteren = 0x106
	sscratch   = 0x140
	sepc       = 0x141
	scause     = 0x142
	stval      = 0x143
	sip        = 0x144
	satp       = 0x180
	mstatus    = 0x300
	misa       = 0x301
	medeleg    = 0x302
	mideleg    = 0x303
	mie        = 0x304
	mtvec      = 0x305
	mcounteren = 0x306
	mscratch   = 0x340
	mepc       = 0x341
	mcause     = 0x342
	mtval      = 0x343
	mip        = 0x344
	firstGuard = 0x3A0
	lastGuard  = 0x3EF
	mcycle     = 0xB00
	minstret   = 0xB02
	cycle      = 0xC00
	clock      = 0xC01
	instret    = 0xC02
	firstName  = 0xF11
	lastName   = 0xF14
)

// kind is what the processor is: RV64 with the letters A, C, I, M, S, U.
const kind = 0x8000000000141105

// Bits that registers have.
const (
	whole      = math.MaxUint64
	counters   = 7
	exceptions = 0x1800B3FF
	interrupts = 0xAAA
	passed     = 0x222 // interrupts that a machine may pass on
)

// Bits that an address does not have, where traps lead, and where they come from.
const (
	noEntry = 1 << 1
	noPlace = 1 << 0
)

// register is how one is read, at a time and with the lines, and how it is written.
type register struct {
	read  func(h *api.Hart, time, lines uint64) uint64
	write func(h *api.Hart, v uint64)
}

// The registers, by their numbers. They stand once made has run.
var (
	made      sync.Once
	registers map[int]register
)

// find is the register of that number; false: there is none.
func find(no int) (register, bool) {
	made.Do(makeRegisters)
	r, is := registers[no]
	return r, is
}

// makeRegisters fills the map.
func makeRegisters() { registers = all() }

// all is the registers that there are.
func all() map[int]register {
	table := map[int]register{
		sstatus:    {readSstatus, writeSstatus},
		sie:        {readSie, writeSie},
		stvec:      address(func(h *api.Hart) *api.Cap { return &h.Stcc }, noEntry),
		scounteren: number(func(h *api.Hart) *uint64 { return &h.Scounteren }, counters),
		sscratch:   number(func(h *api.Hart) *uint64 { return &h.Sscratch }, whole),
		sepc:       address(func(h *api.Hart) *api.Cap { return &h.Sepcc }, noPlace),
		scause:     number(func(h *api.Hart) *uint64 { return &h.Scause }, whole),
		stval:      number(func(h *api.Hart) *uint64 { return &h.Stval }, whole),
		sip:        {readSip, writeSip},
		satp:       {readSatp, writeSatp},
		mstatus:    {readMstatus, writeMstatus},
		misa:       fixed(kind),
		medeleg:    number(func(h *api.Hart) *uint64 { return &h.Medeleg }, exceptions),
		mideleg:    number(func(h *api.Hart) *uint64 { return &h.Mideleg }, passed),
		mie:        number(func(h *api.Hart) *uint64 { return &h.Mie }, interrupts),
		mtvec:      address(func(h *api.Hart) *api.Cap { return &h.Mtcc }, noEntry),
		mcounteren: number(func(h *api.Hart) *uint64 { return &h.Mcounteren }, counters),
		mscratch:   number(func(h *api.Hart) *uint64 { return &h.Mscratch }, whole),
		mepc:       address(func(h *api.Hart) *api.Cap { return &h.Mepcc }, noPlace),
		mcause:     number(func(h *api.Hart) *uint64 { return &h.Mcause }, whole),
		mtval:      number(func(h *api.Hart) *uint64 { return &h.Mtval }, whole),
		mip:        {readMip, writeMip},
		mcycle:     number(func(h *api.Hart) *uint64 { return &h.Cycle }, whole),
		minstret:   number(func(h *api.Hart) *uint64 { return &h.Instret }, whole),
		cycle:      {func(h *api.Hart, _, _ uint64) uint64 { return h.Cycle }, keep},
		clock:      {func(_ *api.Hart, time, _ uint64) uint64 { return time }, keep},
		instret:    {func(h *api.Hart, _, _ uint64) uint64 { return h.Instret }, keep},
	}
	for no := firstGuard; no <= lastGuard; no++ {
		table[no] = fixed(0)
	}
	for no := firstName; no <= lastName; no++ {
		table[no] = fixed(0)
	}
	return table
}
