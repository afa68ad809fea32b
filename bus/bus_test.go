package bus_test

import (
	"math"
	"testing"

	"ravelin/api"
	"ravelin/bus"
	"ravelin/ram"
)

// refused tells of a length of which there is no memory: its error is that of ram.New.
func refused(t *testing.T, n int) {
	t.Helper()
	_, want := ram.New(n)
	if b, e := bus.New(n); b != nil || e != want || e != api.ErrSize {
		t.Errorf("New(%d): %v, %d", n, b, e)
	}
}

// P15.1: all numbers about the lengths that there are: which are refused, and that the others have that memory, and new devices.
func TestNew(t *testing.T) {
	count := 0
	for n := -70000; n <= 140000; n++ {
		if n < 4096 || n > 65536 || n%4096 != 0 {
			refused(t, n)
			continue
		}
		count++
		m := newPair(t, n)
		m.whole()
		if got := m.b.Ram.Len(); got != n {
			t.Errorf("New(%d) has %d bytes", n, got)
		}
	}
	if count != 16 {
		t.Errorf("%d lengths", count)
	}
}

// P15.1: numbers that are far from each length, and such as are one in their lowest bits.
func TestNewFar(t *testing.T) {
	for shift := 17; shift < 63; shift++ {
		for _, n := range lengths() {
			refused(t, 1<<shift)
			refused(t, 1<<shift+n)
			refused(t, -1<<shift+n)
		}
	}
	for i := range 5000 {
		refused(t, math.MaxInt-i)
		refused(t, math.MinInt+i)
	}
}

// P15.1: a new bus says no line is high, and memory and devices are as New of them says.
func TestFresh(t *testing.T) {
	for _, n := range lengths() {
		b := newPair(t, n).b
		if b.Lines() != 0 || b.Clint.Time() != 0 || b.Uart.Waits() != 0 || b.Uart.Output() != -1 || b.Power.Off() {
			t.Errorf("New(%d) is not new", n)
		}
		for at := uint64(0x80000000); at < 0x80000000+uint64(n); at += 8 {
			if v, ok := b.Load(at, 8); v != 0 || !ok {
				t.Fatalf("Load(%#x, 8): %#x, %v", at, v, ok)
			}
		}
		if v, ok := b.Load(0x02004000, 8); v != 1<<64-1 || !ok {
			t.Errorf("the alarm: %#x, %v", v, ok)
		}
		if list := b.Ram.Tagged(); len(list) != 0 {
			t.Errorf("tags: %v", list)
		}
	}
}

// P15.1: buses share nothing.
func TestNewApart(t *testing.T) {
	one, other := newPair(t, 4096), busy(t, 4096)
	one.whole()
	one.store(0x80000010, 8, 5)
	one.store(0x02000000, 4, 1)
	one.store(0x0C000004, 4, 1)
	one.store(0x10000000, 1, 1)
	one.store(0x00100000, 4, api.PowerOff)
	other.whole()
	newPair(t, 4096).whole()
}

// P15.1: the calls go to the memory and the devices that the bus has.
func TestOwn(t *testing.T) {
	b := newPair(t, 8192).b
	b.Ram.Store(8184, 8, 77)
	b.Clint.Tick(66)
	b.Plic.Store(8, 4, 5)
	b.Uart.Input(44)
	for _, x := range []struct {
		at   uint64
		size int
		want uint64
	}{{0x80001FF8, 8, 77}, {0x0200BFF8, 8, 66}, {0x0C000008, 4, 5}, {0x10000000, 1, 44}} {
		if v, ok := b.Load(x.at, x.size); v != x.want || !ok {
			t.Errorf("Load(%#x, %d): %d, %v; want %d", x.at, x.size, v, ok, x.want)
		}
	}
	if b.Uart.Waits() != 0 {
		t.Error("the byte is still kept")
	}
}

// counts is how many bytes are asked for: about 0, sizes, granules and lengths, and such as go round.
func counts() []int {
	var list []int
	for _, n := range []int{0, 16, 4096, 8192, 36864, 61440, 65536, 1 << 31, 1 << 32, 1 << 62} {
		for i := -9; i <= 9; i++ {
			list = append(list, n+i, -n+i)
		}
	}
	for i := range 9 {
		list = append(list, math.MaxInt-i, math.MinInt+i, math.MaxInt-0x80000000+i, math.MaxInt-4096+i)
	}
	return list
}

// P15.1: InRam at each place and for each count about which something could turn.
func TestInRam(t *testing.T) {
	for _, n := range lengths() {
		m := newPair(t, n)
		for _, at := range places(n) {
			for _, count := range counts() {
				m.inRam(at, count)
			}
		}
		m.whole()
	}
}

// P15.1: InRam at the edges, written out.
func TestInRamEdges(t *testing.T) {
	for _, n := range lengths() {
		b := newPair(t, n).b
		top := 0x80000000 + uint64(n)
		for i, x := range []struct {
			at   uint64
			n    int
			want bool
		}{
			{0x80000000, 1, true}, {0x80000000, n, true}, {0x80000000, n + 1, false}, {0x80000001, n, false}, {0x80000001, n - 1, true},
			{0x7FFFFFFF, 1, false}, {0x7FFFFFFF, 2, false}, {0x7FFFFFFF, n, false}, {0x7FFFFFFF, n + 1, false},
			{top - 1, 1, true}, {top - 1, 2, false}, {top - 16, 16, true}, {top - 15, 16, false}, {top, 1, false}, {top, 16, false},
			{0, 1, false}, {0x10000000, 1, false}, {0, math.MaxInt, false}, {0x80000000, math.MaxInt, false}, {top - 1, math.MaxInt, false},
			{1<<64 - 1, 1, false}, {1<<64 - 1, 2, false}, {1<<64 - 8, 16, false}, {1<<64 - 8, math.MaxInt, false},
			{1<<64 - 1, 0x80000002, false}, {1<<64 - 16, 0x80000020, false}, {1<<64 - 0x80000000, 1, false}, {1<<63 + 0x80000000, 1, false},
		} {
			if got := b.InRam(x.at, x.n); got != x.want {
				t.Errorf("%d: InRam(%#x, %d) with %d bytes: %v", i, x.at, x.n, n, got)
			}
		}
	}
}

// P15.1: below 0 it is false, in memory too; of no bytes, all are in it.
func TestInRamNone(t *testing.T) {
	for _, n := range lengths() {
		b := newPair(t, n).b
		for _, at := range places(n) {
			if !b.InRam(at, 0) {
				t.Errorf("InRam(%#x, 0): false", at)
			}
			for _, below := range []int{-1, -2, -8, -16, -4096, -n, -1 << 31, -1 << 32, math.MinInt, math.MinInt + 1} {
				if b.InRam(at, below) {
					t.Errorf("InRam(%#x, %d): true", at, below)
				}
			}
		}
	}
}

// P15.2: loads and stores of each size at each place about which something could turn.
func TestPlaces(t *testing.T) {
	for _, n := range lengths() {
		m := busy(t, n)
		for i, at := range places(n) {
			for _, size := range sizes() {
				m.load(at, size)
				m.store(at, size, mix(uint64(i)))
				m.load(at, size)
			}
			if i%64 == 0 {
				m.whole()
			}
		}
		m.whole()
	}
}

// P15.2: at each register of the devices, and about it, numbers of all kinds, with each size.
func TestRegisters(t *testing.T) {
	m := busy(t, 4096)
	for _, at := range registers() {
		for _, v := range []uint64{0, 1, 2, 7, 0x5555, 0x80, 0xFFFFFFFF, 1 << 32, 1<<64 - 1, mix(at)} {
			for _, size := range sizes() {
				for _, near := range []uint64{at, at + 1, at + 2, at - 1} {
					m.store(near, size, v)
					m.load(near, size)
				}
			}
		}
		m.whole()
	}
}

// P15.2: the first and the last register of each region answer, and nothing that is about them.
func TestRegionsAnswer(t *testing.T) {
	m := newPair(t, 4096)
	for i, x := range []struct {
		at   uint64
		size int
		want bool
	}{
		{0x00100000, 4, true}, {0x000FFFFF, 4, false}, {0x000FFFFC, 4, false}, {0x00101000, 4, false}, {0, 4, false},
		{0x02000000, 4, true}, {0x0200BFF8, 8, true}, {0x0200BFFC, 4, true}, {0x01FFFFFC, 4, false}, {0x02010000, 4, false}, {0x02014000, 8, false},
		{0x0C000000, 4, true}, {0x0C201004, 4, true}, {0x0BFFFFFC, 4, false}, {0x0C400000, 4, false}, {0x0C400004, 4, false}, {0x0E000000, 4, false},
		{0x10000000, 1, true}, {0x10000007, 1, true}, {0x10000008, 1, false}, {0x0FFFFFFF, 1, false}, {0x100000FF, 1, false}, {0x10000100, 1, false},
		{0x80000000, 1, true}, {0x80000000, 8, true}, {0x80000FFF, 1, true}, {0x80000FFE, 2, true}, {0x80000FFC, 4, true}, {0x80000FF8, 8, true},
		{0x7FFFFFFF, 1, false}, {0x7FFFFFFF, 2, false}, {0x7FFFFFFC, 4, false}, {0x7FFFFFFC, 8, false}, {0x7FFFFFF8, 8, false},
		{0x80000FFF, 2, false}, {0x80000FFD, 4, false}, {0x80000FFC, 8, false}, {0x80000FF9, 8, false}, {0x80001000, 1, false}, {0x80001000, 8, false},
		{1<<64 - 1, 1, false}, {1<<64 - 1, 2, false}, {1<<64 - 4, 8, false}, {1<<64 - 8, 8, false}, {1<<32 + 0x80000000, 8, false}, {1<<63 + 0x80000000, 1, false},
	} {
		if v, ok := m.b.Load(x.at, x.size); ok != x.want || !ok && v != 0 {
			t.Errorf("%d: Load(%#x, %d): %#x, %v", i, x.at, x.size, v, ok)
		}
		if ok := m.b.Store(x.at, x.size, 0); ok != x.want {
			t.Errorf("%d: Store(%#x, %d): %v", i, x.at, x.size, ok)
		}
	}
}

// P15.2: other sizes load nothing, and change nothing, anywhere.
func TestNoSizes(t *testing.T) {
	m := busy(t, 4096)
	for _, at := range places(4096) {
		for _, size := range noSizes() {
			if v, ok := m.b.Load(at, size); v != 0 || ok {
				t.Fatalf("Load(%#x, %d): %#x, %v", at, size, v, ok)
			}
			if m.b.Store(at, size, 0x5555) || m.b.Store(at, size, 0) {
				t.Fatalf("Store(%#x, %d): true", at, size)
			}
		}
	}
	m.whole()
}

// P15.2: what is not all in a region loads nothing, and changes nothing: no byte of it that is in one, either.
func TestAcross(t *testing.T) {
	for _, n := range lengths() {
		m := busy(t, n)
		for _, at := range append(edges(n), farOff(n)...) {
			for _, size := range sizes() {
				for back := 1; back < size; back++ {
					from := at - uint64(back)
					if region, _ := m.p.bytesAt(from, size); region != nowhere {
						continue
					}
					if v, ok := m.b.Load(from, size); v != 0 || ok {
						t.Fatalf("Load(%#x, %d): %#x, %v", from, size, v, ok)
					}
					if m.b.Store(from, size, 0x5555) || m.b.Store(from, size, 0) {
						t.Fatalf("Store(%#x, %d): true", from, size)
					}
				}
			}
		}
		m.whole()
	}
}

// P15.2: memory's each byte stands where it is stored, the lowest byte first.
func TestMemory(t *testing.T) {
	for _, size := range sizes() {
		m := busy(t, 4096)
		for at := uint64(0x80000000 - 10); at < 0x80001000+10; at++ {
			m.store(at, size, mix(at))
			m.load(at, size)
			m.load(at, 1)
			m.load(at-3, 8)
		}
		m.whole()
	}
	b := newPair(t, 4096).b
	b.Store(0x80000123, 8, 0x0102030405060708)
	for i := range uint64(8) {
		if v, ok := b.Load(0x80000123+i, 1); v != 8-i || !ok {
			t.Errorf("the byte %d: %d, %v", i, v, ok)
		}
	}
}

// P15.2: what a load does to a device is done just once, and only where it answers.
func TestLoadsThatDo(t *testing.T) {
	m := busy(t, 4096)
	for _, size := range []int{8, 2, 1, 0, 3} {
		for _, at := range []uint64{0x0C200004, 0x0C201004, 0x0C200000, 0x10000000 - 1, 0x10000001} {
			m.load(at, size)
		}
		m.whole()
	}
	m.load(0x10000000, 4)
	m.load(0x10000000, 2)
	m.whole()
	for range 20 {
		m.load(0x0C200004, 4)
		m.load(0x0C201004, 4)
		m.load(0x10000000, 1)
		m.whole()
	}
}

// P15.1 to P15.4: the chapter's examples.
func TestExamples(t *testing.T) {
	b := newPair(t, 4096).b
	store := func(at uint64, size int, v uint64) {
		t.Helper()
		if !b.Store(at, size, v) {
			t.Errorf("Store(%#x, %d, %d): false", at, size, v)
		}
	}
	load := func(at uint64, size int, want uint64, wantOk bool) {
		t.Helper()
		if v, ok := b.Load(at, size); v != want || ok != wantOk {
			t.Errorf("Load(%#x, %d): %d, %v", at, size, v, ok)
		}
	}
	store(0x80000FFC, 4, 7)
	load(0x80000FFC, 4, 7, true)
	load(0x80000FFC, 8, 0, false)
	store(0x02000000, 4, 1)
	if got := b.Lines(); got != 8 {
		t.Errorf("Lines: %d", got)
	}
	store(0x02004000, 8, 0)
	if got := b.Lines(); got != 136 {
		t.Errorf("Lines: %d", got)
	}
	load(0x10000005, 1, 96, true)
	load(0x30000000, 4, 0, false)
	if !b.InRam(0x80000000, 4096) {
		t.Error("InRam: false")
	}
}
