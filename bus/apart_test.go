package bus_test

import (
	"testing"

	"ravelin/api"
)

// values is what is stored: noughts, ones, and what registers could take for something.
func values() []uint64 { return []uint64{0, 1, 2, 9, 0x5555, 1 << 5, 1<<64 - 1} }

// P15.5: a store at a register, with each size and many numbers, changes nothing of another region.
func TestStoresApart(t *testing.T) {
	m := busy(t, 4096)
	before := stateOf(asPlain(m.b))
	for _, at := range registers() {
		for _, v := range values() {
			for _, size := range sizes() {
				region, _ := m.p.bytesAt(at, size)
				m.store(at, size, v)
				after := stateOf(asPlain(m.b))
				sameBut(t, region, after, before)
				before = after
			}
		}
	}
}

// P15.5: nor does one in memory, about the places where registers would be behind its beginning, nor a capability there.
func TestMemoryApart(t *testing.T) {
	m := busy(t, 65536)
	before := stateOf(asPlain(m.b))
	for _, at := range registers() {
		in := 0x80000000 + at%65536
		for i, size := range sizes() {
			m.store(in, size, values()[(int(at)+i)%len(values())])
		}
		m.storeCap(in&^15, capOf(true, at))
		after := stateOf(asPlain(m.b))
		sameBut(t, inMemory, after, before)
	}
}

// P15.5: nor does a load: of a claim, of a byte that came, of anything.
func TestLoadsApart(t *testing.T) {
	m := busy(t, 4096)
	before := stateOf(asPlain(m.b))
	for _, at := range append(places(4096), registers()...) {
		for _, size := range sizes() {
			region, _ := m.p.bytesAt(at, size)
			m.load(at, size)
			if region != inPlic && region != inUart {
				region = nowhere
			}
			m.loadCap(at &^ 15)
			m.inRam(at, size)
			m.lines()
			if region != nowhere {
				after := stateOf(asPlain(m.b))
				sameBut(t, region, after, before)
				before = after
			}
		}
	}
	sameBut(t, nowhere, stateOf(asPlain(m.b)), before)
}

// P15.5: nor does what a device is told by itself.
func TestCallsApart(t *testing.T) {
	b := busy(t, 4096).b
	before := stateOf(asPlain(b))
	for _, x := range []struct {
		region where
		call   func()
	}{
		{inClint, func() { b.Clint.Tick(1 << 60) }},
		{inPlic, func() { b.Plic.Lines(1<<32 - 1) }},
		{inPlic, func() { b.Plic.Lines(0) }},
		{inUart, func() { b.Uart.Input(9) }},
		{inUart, func() { b.Uart.Output() }},
		{inPower, func() { b.Power.Store(0, 4, api.PowerOff) }},
		{inMemory, func() { b.Ram.Store(0, 8, 9) }},
	} {
		x.call()
		after := stateOf(asPlain(b))
		sameBut(t, x.region, after, before)
		before = after
	}
}

// P15.1 to P15.5: calls in any order.
func TestAnyOrder(t *testing.T) {
	for round := range uint64(60) {
		m := newPair(t, lengths()[round%5])
		all := places(m.p.memory.Len())
		for i := range uint64(600) {
			m.step(round<<32+8*i, all)
		}
		m.whole()
	}
}

// step does one thing or another, as the number says.
func (m pair) step(i uint64, all []uint64) {
	m.t.Helper()
	at := all[mix(i+1)%uint64(len(all))]
	if mix(i+2)%2 == 0 {
		at = 0x80000000 + mix(i+3)%uint64(m.p.memory.Len())
	}
	size := []int{1, 2, 4, 4, 8, 3}[mix(i+4)%6]
	v := mix(i+5) >> (mix(i+6) % 64)
	switch mix(i) % 9 {
	case 0, 1:
		m.load(at, size)
	case 2, 3:
		m.store(at, size, v)
	case 4:
		m.loadCap(at &^ (15 * (v % 2)))
	case 5, 6:
		m.storeCap(at&^15, capOf(v%4 != 0, v))
		m.loadCap(at &^ 15)
	case 7:
		m.inRam(at, int(v%70000)-9)
		m.lines()
	case 8:
		m.outside(v)
	}
}

// outside is what the outer world does to both.
func (m pair) outside(v uint64) {
	for _, p := range []*plain{m.p, asPlain(m.b)} {
		p.clint.Tick(int(v % 1000))
		p.plic.Lines(uint32(v))
		p.uart.Input(byte(v))
	}
}
