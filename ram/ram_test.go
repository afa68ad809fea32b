package ram_test

import (
	"math"
	"slices"
	"testing"

	"ravelin/api"
	"ravelin/ram"
)

// refused tells of a length of which there is no memory.
func refused(t *testing.T, n int) {
	t.Helper()
	if r, e := ram.New(n); r != nil || e != api.ErrSize {
		t.Errorf("New(%d): %v, %d", n, r, e)
	}
}

// P11.1: all numbers about the lengths that there are: which of them are refused, and that the others are noughts without tags.
func TestNew(t *testing.T) {
	count := 0
	for n := -70000; n <= 140000; n++ {
		if n < 4096 || n > 65536 || n%4096 != 0 {
			refused(t, n)
			continue
		}
		count++
		newPair(t, n).whole()
	}
	if count != 16 {
		t.Errorf("%d lengths", count)
	}
}

// P11.1: numbers that are far from each length, and such as are one in their lowest bits.
func TestNewFar(t *testing.T) {
	for _, n := range far() {
		refused(t, n)
	}
	for shift := 17; shift < 63; shift++ {
		for _, n := range lengths() {
			refused(t, 1<<shift)
			refused(t, 1<<shift+n)
			refused(t, -1<<shift+n)
		}
	}
	refused(t, math.MinInt+4096)
	refused(t, math.MaxInt-4095)
}

// P11.1: Len stays, whatever is done.
func TestLen(t *testing.T) {
	for _, n := range lengths() {
		m := full(t, n)
		m.store(n-1, 1, 5)
		m.store(n, 8, 5)
		m.storeCap(n, true, 5, 5)
		if got := m.r.Len(); got != n {
			t.Errorf("Len: %d; want %d", got, n)
		}
	}
}

// P11.1: memories share nothing.
func TestApart(t *testing.T) {
	one, other := newPair(t, 4096), newPair(t, 4096)
	one.storeCap(32, true, 1, 2)
	other.storeCap(4080, true, 3, 4)
	one.store(100, 8, 5)
	one.whole()
	other.whole()
}

// P11.2: loads of each size at each place about which something could turn.
func TestLoad(t *testing.T) {
	for _, n := range lengths() {
		m := full(t, n)
		for _, off := range places(n) {
			for _, size := range sizes() {
				m.load(off, size)
			}
		}
		m.whole()
	}
}

// P11.2: the lowest byte stands first.
func TestOrderOfBytes(t *testing.T) {
	m := newPair(t, 4096)
	for i := range 16 {
		m.store(i, 1, uint64(0xA0+i))
	}
	for _, x := range []struct {
		off, size int
		want      uint64
	}{
		{0, 1, 0xA0}, {15, 1, 0xAF}, {0, 2, 0xA1A0}, {3, 2, 0xA4A3}, {0, 4, 0xA3A2A1A0}, {7, 4, 0xAAA9A8A7},
		{0, 8, 0xA7A6A5A4A3A2A1A0}, {5, 8, 0xACABAAA9A8A7A6A5}, {12, 8, 0xAFAEADAC},
	} {
		if got, ok := m.r.Load(x.off, x.size); got != x.want || !ok {
			t.Errorf("Load(%d, %d): %#x, %v; want %#x", x.off, x.size, got, ok, x.want)
		}
	}
	if !m.r.Store(100, 8, 0x0102030405060708) {
		t.Fatal("not stored")
	}
	for i := range 8 {
		if got, _ := m.r.Load(100+i, 1); got != uint64(8-i) {
			t.Errorf("the byte %d: %#x", i, got)
		}
	}
}

// P11.2: each place of the least memory, stored and loaded with each size.
func TestEachPlace(t *testing.T) {
	for _, size := range sizes() {
		m := full(t, 4096)
		for off := -20; off < 4120; off++ {
			m.store(off, size, mix(uint64(off)))
			m.load(off, size)
		}
		m.whole()
	}
}

// P11.2, P11.4: stores of each size at each place about which something could turn: what stands there then, and which tags are left.
func TestStore(t *testing.T) {
	for _, n := range lengths() {
		for _, size := range sizes() {
			m := full(t, n)
			for i, off := range places(n) {
				m.store(off, size, mix(uint64(i)))
				m.load(off, size)
				m.around(off)
			}
			m.whole()
		}
	}
}

// P11.2: what a store of one size takes of the tags of three granules, at each place in them: those of one granule, or of two, and never others; though the bytes stay as they were.
func TestStoreTakesTags(t *testing.T) {
	for _, first := range []int{0, 496, 1008, 4096 - 48, 65536 - 48} {
		for _, size := range sizes() {
			for at := 0; at <= 48-size; at++ {
				m := newPair(t, 65536)
				for i := range 3 {
					m.storeCap(first+16*i, true, 0, 0)
				}
				var want []int
				for i := range 3 {
					if at+size <= 16*i || at >= 16*i+16 {
						want = append(want, first+16*i)
					}
				}
				m.store(first+at, size, 0)
				if got := m.r.Tagged(); !slices.Equal(got, want) {
					t.Errorf("Store(%d, %d): tags %v; want %v", first+at, size, got, want)
				}
			}
		}
	}
}

// P11.2: of the number only the lowest bytes are laid.
func TestStoreLowest(t *testing.T) {
	for _, size := range sizes() {
		for _, v := range []uint64{0, 1, 0x80, 0xFF, 0x100, 0x8000, 0xFFFF, 0x10000, 0x80000000, 0xFFFFFFFF, 1 << 32, 1 << 63, math.MaxUint64, 0x0123456789ABCDEF} {
			m := full(t, 4096)
			m.store(20, size, v)
			m.load(20, size)
			m.store(40, size, v)
			m.load(40, size)
			m.whole()
		}
	}
}

// P11.2: what is no size is refused everywhere, and nothing is changed.
func TestNoSize(t *testing.T) {
	for _, n := range []int{4096, 65536} {
		m := full(t, n)
		for _, size := range noSizes() {
			for _, off := range append(places(n), n-size, size, -size) {
				if v, ok := m.r.Load(off, size); v != 0 || ok {
					t.Errorf("Load(%d, %d): %#x, %v", off, size, v, ok)
				}
				if m.r.Store(off, size, math.MaxUint64) {
					t.Errorf("Store(%d, %d)", off, size)
				}
			}
		}
		m.whole()
	}
}

// P11.2, P11.3: what isn't all there is refused, and nothing is changed, not even what is there of it.
func TestNotThere(t *testing.T) {
	for _, n := range lengths() {
		m := full(t, n)
		for _, off := range append(far(), -65536, -4096, -16, -15, -8, -7, -4, -3, -2, -1, n-15, n-8, n-7, n-4, n-3, n-2, n-1, n, n+1, n+16, 65536, 69632, 131072) {
			for _, size := range sizes() {
				if off >= 0 && off < n && off+size <= n {
					continue
				}
				if v, ok := m.r.Load(off, size); v != 0 || ok {
					t.Errorf("Load(%d, %d): %#x, %v", off, size, v, ok)
				}
				if m.r.Store(off, size, math.MaxUint64) {
					t.Errorf("Store(%d, %d)", off, size)
				}
			}
			if tag, addr, meta, ok := m.r.LoadCap(off); tag || addr != 0 || meta != 0 || ok {
				t.Errorf("LoadCap(%d): %v, %#x, %#x, %v", off, tag, addr, meta, ok)
			}
			if m.r.StoreCap(off, true, math.MaxUint64, math.MaxUint64) || m.r.StoreCap(off, false, 0, 0) {
				t.Errorf("StoreCap(%d)", off)
			}
		}
		m.whole()
	}
}

// P11.3: capabilities at all places of the least memory, and about what could turn in others: laid with a tag and without one.
func TestCap(t *testing.T) {
	for _, n := range lengths() {
		list := places(n)
		if n == 4096 {
			for off := range 4096 {
				list = append(list, off)
			}
		}
		for _, first := range []bool{true, false} {
			m := newPair(t, n)
			for i, off := range list {
				m.storeCap(off, first == (i%3 != 0), mix(uint64(i)), mix(uint64(-i)))
				m.loadCap(off)
				m.load(off, 8)
				m.load(off+8, 8)
			}
			m.whole()
		}
	}
}

// P11.3: the first number stands in the first eight bytes, each with the lowest byte first; the other one behind it.
func TestCapBytes(t *testing.T) {
	m := newPair(t, 4096)
	if !m.r.StoreCap(4080, false, 0x0807060504030201, 0x100F0E0D0C0B0A09) {
		t.Fatal("not stored")
	}
	for i := range 16 {
		if got, _ := m.r.Load(4080+i, 1); got != uint64(i+1) {
			t.Errorf("the byte %d: %#x", i, got)
		}
		m.r.Store(16+i, 1, uint64(0x20+i))
	}
	tag, addr, meta, ok := m.r.LoadCap(16)
	if tag || addr != 0x2726252423222120 || meta != 0x2F2E2D2C2B2A2928 || !ok {
		t.Errorf("%v, %#x, %#x, %v", tag, addr, meta, ok)
	}
}

// P11.3: a capability without a tag takes the tag that was there, of its own granule alone.
func TestCapTakesTag(t *testing.T) {
	for _, n := range lengths() {
		m := full(t, n)
		for off := 0; off < n; off += 48 {
			m.storeCap(off, false, mix(uint64(off)), mix(uint64(off+8)))
		}
		m.whole()
		for off := 0; off < n; off += 96 {
			m.storeCap(off, true, 0, 0)
		}
		m.whole()
	}
}

// P11.3: the places that have tags are told by their order, not by when they were laid; of each granule alone, of all, of none.
func TestTagged(t *testing.T) {
	for _, n := range lengths() {
		m := newPair(t, n)
		m.tagged()
		for off := n - 16; off >= 0; off -= 16 {
			m.storeCap(off, true, 0, 0)
			if got := m.r.Tagged(); len(got) != (n-off)/16 || got[0] != off || !slices.IsSorted(got) {
				t.Fatalf("from %d on: %v", off, got)
			}
		}
		m.whole()
		for off := 0; off < n; off += 16 {
			m.storeCap(off, false, 0, 0)
			if off%1024 == 16 {
				m.tagged()
			}
		}
		m.whole()
		for off := 0; off < n; off += 16 {
			m.storeCap(off, true, 0, 0)
			if got := m.r.Tagged(); !slices.Equal(got, []int{off}) {
				t.Errorf("%d: %v", off, got)
			}
			m.store(off+off/16%16, 1, 0)
		}
	}
}

// P11.3: what Tagged answers is new memory each time.
func TestTaggedNew(t *testing.T) {
	m := full(t, 4096)
	one, other := m.r.Tagged(), m.r.Tagged()
	for i := range one {
		one[i] = -1
	}
	clear(one[:cap(one)])
	if !slices.Equal(other, m.p.tagged()) {
		t.Error("two answers share memory")
	}
	m.whole()
}

// P11.2, P11.3: what only asks changes nothing, and is answered likewise again.
func TestAskAgain(t *testing.T) {
	m := full(t, 8192)
	m.store(100, 8, 5)
	for range 3 {
		m.whole()
	}
}

// P11.4: what was stored is loaded by each size, until a byte of it is stored over.
func TestBack(t *testing.T) {
	for _, size := range sizes() {
		for _, by := range sizes() {
			for at := -8; at < 16; at++ {
				m := full(t, 4096)
				v := mix(uint64(size))
				want := v
				if size < 8 {
					want %= 1 << (8 * size)
				}
				m.r.Store(1016, size, v)
				m.p.store(1016, size, v)
				m.store(1016+at, by, ^v)
				got, ok := m.r.Load(1016, size)
				if over := at > -by && at < size; !ok || !over && got != want {
					t.Errorf("%d bytes, then %d at %d: %#x, %v", size, by, at, got, ok)
				}
				m.load(1016, size)
				m.around(1016)
			}
		}
	}
}

// P11.4: a tag isn't there again when the bytes are; only StoreCap lays it.
func TestTagBack(t *testing.T) {
	m := newPair(t, 4096)
	m.storeCap(64, true, 0x1111111111111111, 0x2222222222222222)
	m.store(79, 1, 0x22)
	m.loadCap(64)
	m.store(64, 8, 0x1111111111111111)
	m.store(72, 8, 0x2222222222222222)
	m.loadCap(64)
	m.tagged()
	m.storeCap(64, true, 0x1111111111111111, 0x2222222222222222)
	m.store(63, 1, 7)
	m.store(80, 8, 7)
	m.store(64, 3, 7)
	m.store(4093, 4, 7)
	m.storeCap(72, false, 7, 7)
	if tag, addr, meta, ok := m.r.LoadCap(64); !tag || addr != 0x1111111111111111 || meta != 0x2222222222222222 || !ok {
		t.Errorf("%v, %#x, %#x, %v", tag, addr, meta, ok)
	}
	m.whole()
}

// step does to both what a number says: mostly what can be done, now and then what can't.
func (m pair) step(state uint64) {
	n := uint64(len(m.p.bytes))
	v, w := mix(state+1), mix(state+2)
	off := int(mix(state+3)%(n+48)) - 24
	size := 1 << (v % 4)
	switch v >> 8 % 16 {
	case 0:
		size = int(w%20) - 2
	case 1, 2, 3:
		off &^= 15
	case 4: // at places that are few, so that much meets
		off = int(w%5)*16 + int(v>>16%16)
	}
	switch w >> 8 % 8 {
	case 0, 1:
		m.load(off, size)
	case 2, 3:
		m.store(off, size, w)
	case 4:
		m.loadCap(off)
	default:
		m.storeCap(off&^(15*int(v>>20%2)), v>>24%4 > 0, v, w)
	}
}

// P11.1 to P11.4: calls in any order, held against plain memory.
func TestAnyOrder(t *testing.T) {
	for round, n := range append(lengths(), 4096, 4096, 16384) {
		m := newPair(t, n)
		for i := range 60000 {
			m.step(uint64(round)<<40 + uint64(i)*4)
			if i%997 == 0 {
				m.tagged()
			}
			if i%20011 == 0 {
				m.whole()
			}
		}
		m.whole()
	}
}

// P11.2, P11.3: the chapter's examples.
func TestExamples(t *testing.T) {
	r, e := ram.New(4096)
	if e != api.OK {
		t.Fatal(e)
	}
	if !r.Store(14, 4, 0x01020304) {
		t.Error("Store 14, 4")
	}
	if v, ok := r.Load(16, 2); v != 0x0102 || !ok {
		t.Errorf("Load 16, 2: %#x, %v", v, ok)
	}
	if v, ok := r.Load(4093, 4); v != 0 || ok {
		t.Errorf("Load 4093, 4: %#x, %v", v, ok)
	}
	if !r.StoreCap(16, true, 5, 6) {
		t.Error("StoreCap 16")
	}
	if l := r.Tagged(); !slices.Equal(l, []int{16}) {
		t.Errorf("Tagged: %v", l)
	}
	if v, ok := r.Load(24, 8); v != 6 || !ok {
		t.Errorf("Load 24, 8: %d, %v", v, ok)
	}
	if !r.Store(31, 1, 0) {
		t.Error("Store 31, 1")
	}
	if tag, addr, meta, ok := r.LoadCap(16); tag || addr != 5 || meta != 6 || !ok {
		t.Errorf("LoadCap 16: %v, %d, %d, %v", tag, addr, meta, ok)
	}
}
