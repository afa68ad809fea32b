package bus_test

import (
	"slices"
	"testing"

	"ravelin/api"
	"ravelin/bus"
)

// state is all that memory and devices have, a list for each.
type state map[where][]uint64

// stateOf is that, asked of each of them by itself; what is gone by that is laid again.
func stateOf(p *plain) state {
	return state{
		inPower:  {bit(p.power.Off())},
		inClint:  clintState(p),
		inPlic:   plicState(p),
		inUart:   uartState(p),
		inMemory: memoryState(p),
	}
}

// bit is 1, if it is so.
func bit(is bool) uint64 {
	if is {
		return 1
	}
	return 0
}

// clintState is the time, the alarm and the bell.
func clintState(p *plain) []uint64 {
	alarm, _ := p.clint.Load(0x4000, 8)
	return []uint64{p.clint.Time(), alarm, bit(p.clint.Soft()), bit(p.clint.Timer())}
}

// plicState is the plic's registers but the claims, and what is in service: that does not become pending, when all lines are high.
func plicState(p *plain) []uint64 {
	var list []uint64
	for _, off := range []int{0x1000, 0x2000, 0x2080, 0x200000, 0x201000} {
		v, _ := p.plic.Load(off, 4)
		list = append(list, v)
	}
	for source := range 32 {
		v, _ := p.plic.Load(4*source, 4)
		list = append(list, v)
	}
	pending := uint32(list[0])
	p.plic.Lines(1<<32 - 1)
	free, _ := p.plic.Load(0x1000, 4)
	p.plic.Lines(pending)
	return append(list, free, bit(p.plic.Pending(0)), bit(p.plic.Pending(1)))
}

// uartState is whether it is enabled, what was told, and the bytes that are kept.
func uartState(p *plain) []uint64 {
	enabled, _ := p.uart.Load(1, 1)
	told := p.uart.Output()
	if told >= 0 {
		p.uart.Store(0, 1, uint64(told))
	}
	list := []uint64{enabled, uint64(told)}
	for range p.uart.Waits() {
		b, _ := p.uart.Load(0, 1)
		list = append(list, b)
	}
	for _, b := range list[2:] {
		p.uart.Input(byte(b))
	}
	return list
}

// memoryState is memory's numbers, and the granules that have a tag.
func memoryState(p *plain) []uint64 {
	var list []uint64
	for off := 0; off < p.memory.Len(); off += 8 {
		v, _ := p.memory.Load(off, 8)
		list = append(list, v)
	}
	for _, off := range p.memory.Tagged() {
		list = append(list, uint64(off))
	}
	return list
}

// sameBut holds two states against each other, but for what one region has.
func sameBut(t *testing.T, region where, got, want state) {
	t.Helper()
	for r := range want {
		if r != region && !slices.Equal(got[r], want[r]) {
			t.Fatalf("the region %d is not as it should be", r)
		}
	}
}

// pair is a bus, and a plain one to which the same is done.
type pair struct {
	t *testing.T
	b *bus.Bus
	p *plain
}

// newPair is two with so much memory that are as they are at first.
func newPair(t *testing.T, n int) pair {
	t.Helper()
	b, e := bus.New(n)
	if b == nil || e != api.OK {
		t.Fatalf("New(%d): %v, %d", n, b, e)
	}
	if b.Ram == nil || b.Clint == nil || b.Plic == nil || b.Uart == nil || b.Power == nil {
		t.Fatalf("New(%d): %+v", n, b)
	}
	return pair{t, b, plainOf(t, n)}
}

// busy is two of which all has something that could be lost: memory is full of capabilities, the time has gone on, sources are pending and in service, bytes have come, and one was told.
func busy(t *testing.T, n int) pair {
	t.Helper()
	m := newPair(t, n)
	for at := uint64(0x80000000); at < 0x80000000+uint64(n); at += 16 {
		m.storeCap(at, capOf(true, at))
	}
	for _, p := range []*plain{m.p, asPlain(m.b)} {
		p.clint.Tick(1234567)
		p.clint.Store(0x4000, 8, 0x0102030405060708)
		for source := 1; source < 32; source++ {
			p.plic.Store(4*source, 4, uint64(source))
		}
		p.plic.Store(0x2000, 4, 0x00FF00F0)
		p.plic.Store(0x2080, 4, 0x0F0F0FF0)
		p.plic.Store(0x201000, 4, 2)
		p.plic.Lines(0xFFFFFFF0)
		p.plic.Load(0x200004, 4)
		p.plic.Load(0x201004, 4)
		for i := range 5 {
			p.uart.Input(byte(0xB1 + i))
		}
		p.uart.Store(0, 1, 0xE7)
		p.uart.Store(1, 1, 1)
	}
	m.whole()
	return m
}

// load loads from both.
func (m pair) load(at uint64, size int) {
	m.t.Helper()
	want, wantOk := m.p.load(at, size)
	if got, ok := m.b.Load(at, size); got != want || ok != wantOk {
		m.t.Fatalf("Load(%#x, %d): %#x, %v; want %#x, %v", at, size, got, ok, want, wantOk)
	}
}

// store stores to both.
func (m pair) store(at uint64, size int, v uint64) {
	m.t.Helper()
	want := m.p.store(at, size, v)
	if got := m.b.Store(at, size, v); got != want {
		m.t.Fatalf("Store(%#x, %d, %#x): %v; want %v", at, size, v, got, want)
	}
}

// loadCap loads a capability from both.
func (m pair) loadCap(at uint64) {
	m.t.Helper()
	want, wantOk := m.p.loadCap(at)
	if got, ok := m.b.LoadCap(at); got != want || ok != wantOk {
		m.t.Fatalf("LoadCap(%#x): %+v, %v; want %+v, %v", at, got, ok, want, wantOk)
	}
}

// storeCap stores a capability to both.
func (m pair) storeCap(at uint64, c api.Cap) {
	m.t.Helper()
	want := m.p.storeCap(at, c)
	if got := m.b.StoreCap(at, c); got != want {
		m.t.Fatalf("StoreCap(%#x, %+v): %v; want %v", at, c, got, want)
	}
}

// inRam asks both whether so many bytes are memory.
func (m pair) inRam(at uint64, n int) {
	m.t.Helper()
	want := m.p.inRam(at, n)
	if got := m.b.InRam(at, n); got != want {
		m.t.Fatalf("InRam(%#x, %d) with %d bytes: %v; want %v", at, n, m.p.memory.Len(), got, want)
	}
}

// lines asks both which lines are high.
func (m pair) lines() {
	m.t.Helper()
	want := m.p.lines()
	if got := m.b.Lines(); got != want {
		m.t.Fatalf("Lines: %d; want %d", got, want)
	}
}

// whole holds all that both have against each other.
func (m pair) whole() {
	m.t.Helper()
	m.lines()
	sameBut(m.t, nowhere, stateOf(asPlain(m.b)), stateOf(m.p))
}
