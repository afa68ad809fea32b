package bus_test

import (
	"math"
	"math/big"
	"testing"

	"ravelin/api"
	"ravelin/bus"
	"ravelin/capenc"
	"ravelin/clint"
	"ravelin/plic"
	"ravelin/ram"
	"ravelin/serial"
)

// where is the region in which something stands.
type where int

const (
	nowhere where = iota
	inPower
	inClint
	inPlic
	inUart
	inMemory
)

// plain is what the document says of a bus: memory and devices of its own, that are asked by themselves, and for each byte the region that it is in.
type plain struct {
	memory *ram.Ram
	clint  *clint.Clint
	plic   *plic.Plic
	uart   *serial.Uart
	power  *serial.Power
}

// plainOf is a plain one with so much memory.
func plainOf(t *testing.T, n int) *plain {
	t.Helper()
	memory, e := ram.New(n)
	if e != api.OK {
		t.Fatalf("ram.New(%d): %d", n, e)
	}
	return &plain{memory, clint.New(), plic.New(), serial.New(), serial.NewPower()}
}

// byteAt is the region of a byte, and how far it lies behind that one's beginning.
func (p *plain) byteAt(at uint64) (where, int) {
	switch {
	case 0x00100000 <= at && at <= 0x00100FFF:
		return inPower, int(at - 0x00100000)
	case 0x02000000 <= at && at <= 0x0200FFFF:
		return inClint, int(at - 0x02000000)
	case 0x0C000000 <= at && at <= 0x0C3FFFFF:
		return inPlic, int(at - 0x0C000000)
	case 0x10000000 <= at && at <= 0x100000FF:
		return inUart, int(at - 0x10000000)
	case 0x80000000 <= at && at < 0x80000000+uint64(p.memory.Len()):
		return inMemory, int(at - 0x80000000)
	}
	return nowhere, 0
}

// bytesAt is the region in which so many bytes are, asked of each of them, and how far they lie behind its beginning.
func (p *plain) bytesAt(at uint64, size int) (where, int) {
	first, off := p.byteAt(at)
	for i := range uint64(size) {
		if next, _ := p.byteAt(at + i); at > math.MaxUint64-i || next != first {
			return nowhere, 0
		}
	}
	return first, off
}

// isSize tells whether that is a size.
func isSize(size int) bool { return size == 1 || size == 2 || size == 4 || size == 8 }

// load is what Load answers.
func (p *plain) load(at uint64, size int) (uint64, bool) {
	if !isSize(size) {
		return 0, false
	}
	switch region, off := p.bytesAt(at, size); region {
	case inPower:
		return p.power.Load(off, size)
	case inClint:
		return p.clint.Load(off, size)
	case inPlic:
		return p.plic.Load(off, size)
	case inUart:
		return p.uart.Load(off, size)
	case inMemory:
		return p.memory.Load(off, size)
	}
	return 0, false
}

// store is what Store does, and answers.
func (p *plain) store(at uint64, size int, v uint64) bool {
	if !isSize(size) {
		return false
	}
	switch region, off := p.bytesAt(at, size); region {
	case inPower:
		return p.power.Store(off, size, v)
	case inClint:
		return p.clint.Store(off, size, v)
	case inPlic:
		return p.plic.Store(off, size, v)
	case inUart:
		return p.uart.Store(off, size, v)
	case inMemory:
		return p.memory.Store(off, size, v)
	}
	return false
}

// loadCap is what LoadCap answers.
func (p *plain) loadCap(at uint64) (api.Cap, bool) {
	if region, off := p.bytesAt(at, 16); region == inMemory {
		if tag, addr, meta, ok := p.memory.LoadCap(off); ok {
			return capenc.Unpack(tag, addr, meta), true
		}
	}
	return api.Cap{}, false
}

// storeCap is what StoreCap does, and answers.
func (p *plain) storeCap(at uint64, c api.Cap) bool {
	region, off := p.bytesAt(at, 16)
	addr, meta := capenc.Pack(c)
	return region == inMemory && p.memory.StoreCap(off, c.Tag, addr, meta)
}

// inRam is what InRam answers, by true numbers: of no bytes, all are there.
func (p *plain) inRam(at uint64, n int) bool {
	if n <= 0 {
		return n == 0
	}
	end := new(big.Int).SetUint64(at)
	end.Add(end, big.NewInt(int64(n)))
	top := big.NewInt(0x80000000 + int64(p.memory.Len()))
	return at >= 0x80000000 && end.Cmp(top) <= 0
}

// lines is what Lines answers.
func (p *plain) lines() uint64 {
	sum := uint64(0)
	if p.clint.Soft() {
		sum += 8
	}
	if p.clint.Timer() {
		sum += 128
	}
	if p.plic.Pending(1) {
		sum += 512
	}
	if p.plic.Pending(0) {
		sum += 2048
	}
	return sum
}

// asPlain is a bus's own memory and devices, to be asked by themselves.
func asPlain(b *bus.Bus) *plain {
	return &plain{b.Ram, b.Clint, b.Plic, b.Uart, b.Power}
}

// mix is a number that looks like chance, and is the same for the same one.
func mix(v uint64) uint64 {
	z := (v + 1) * 0x9E3779B97F4A7C15
	z = (z ^ z>>30) * 0xBF58476D1CE4E5B9
	z = (z ^ z>>27) * 0x94D049BB133111EB
	return z ^ z>>31
}

// lengths is how long memories are: the least, the greatest, and some between.
func lengths() []int { return []int{4096, 8192, 36864, 61440, 65536} }

// edges is where regions begin and end, with a memory of n bytes, and with one of the greatest length.
func edges(n int) []uint64 {
	return []uint64{
		0x00100000, 0x00101000, 0x02000000, 0x02010000, 0x0C000000, 0x0C400000, 0x10000000, 0x10000100,
		0x80000000, 0x80000000 + uint64(n), 0x80010000,
	}
}

// about is the addresses less than 20 away from a place; from 0 on they go round.
func about(at uint64) []uint64 {
	var list []uint64
	for i := range uint64(39) {
		list = append(list, at+i-19)
	}
	return list
}

// farOff is addresses at the ends of all, and such as are in a region, or at its end, in their lowest bits, or less 2^64, alone.
func farOff(n int) []uint64 {
	list := append(about(0), about(1<<31)...)
	for _, at := range []uint64{1 << 16, 1 << 32, 1 << 56, 1 << 63, 0x30000000, 0x7FFF0000, 0x80020000} {
		list = append(list, about(at)...)
	}
	for _, at := range edges(n) {
		for shift := 32; shift < 64; shift++ {
			list = append(list, at+1<<shift, at-1<<shift, at-8+1<<shift)
		}
		list = append(list, -at, ^at, at-0x80000000, at+0x80000000, at<<32, at|0xFFFFFFFF00000000)
	}
	return list
}

// places is all those about which something could turn.
func places(n int) []uint64 {
	list := farOff(n)
	for _, at := range edges(n) {
		list = append(list, about(at)...)
	}
	return append(list, registers()...)
}

// registers is where devices have registers, and some where they have none.
func registers() []uint64 {
	list := []uint64{0x00100000, 0x00100004, 0x00100FFC}
	for _, off := range []uint64{0, 4, 0x4000, 0x4004, 0x4008, 0xBFF8, 0xBFFC, 0xC000} {
		list = append(list, 0x02000000+off)
	}
	for off := uint64(0); off <= 0x80; off += 4 {
		list = append(list, 0x0C000000+off)
	}
	for _, off := range []uint64{0x1000, 0x1004, 0x2000, 0x2004, 0x2080, 0x2100, 0x200000, 0x200004, 0x201000, 0x201004, 0x202000, 0x3FFFFC} {
		list = append(list, 0x0C000000+off)
	}
	for off := range uint64(9) {
		list = append(list, 0x10000000+off)
	}
	return list
}

// sizes is those that there are.
func sizes() []int { return []int{1, 2, 4, 8} }

// noSizes is numbers that are no sizes.
func noSizes() []int {
	list := []int{-8, -4, -2, -1, 0, 3, 5, 6, 7, 9, 10, 12, 15, 16, 17, 24, 32, 64, 256, 257, 264, 4096, 65536, 0x400000}
	for shift := 32; shift < 63; shift++ {
		for _, size := range sizes() {
			list = append(list, 1<<shift+size, -1<<shift+size, -1<<shift-size)
		}
	}
	return append(list, math.MaxInt, math.MaxInt-7, math.MinInt, math.MinInt+1, math.MinInt+4, math.MinInt+8)
}

// caps is capabilities of all sorts, with tags and without; the last ones have fields that are not in their places.
func caps() []api.Cap {
	list := []api.Cap{capenc.Number(0), capenc.Number(5), capenc.Number(math.MaxUint64), capenc.Root(0, 0), capenc.Root(1, 0x80001234)}
	for i := range uint64(40) {
		list = append(list, capenc.Unpack(i%3 != 0, mix(3*i)>>(i%64), mix(3*i+1)>>(i%64)))
	}
	odd := capenc.Root(1, 7)
	odd.Big, odd.E, odd.B, odd.T = false, 0, 0x1234, 0x567
	untagged := odd
	untagged.Tag = false
	wrong := api.Cap{Tag: true, Perms: -1, Type: 1 << 20, Mode: 7, E: 99, B: 1 << 15, T: math.MinInt, Addr: 9}
	return append(list, odd, untagged, wrong, api.Cap{}, api.Cap{Big: true, E: math.MaxInt, Type: math.MinInt})
}
