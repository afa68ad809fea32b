package bus_test

import (
	"testing"

	"ravelin/api"
	"ravelin/capenc"
)

// capOf is a capability that looks like chance, and is the same for the same number.
func capOf(tag bool, v uint64) api.Cap { return capenc.Unpack(tag, mix(2*v), mix(2*v+1)) }

// P15.3: capabilities of all sorts, stored and loaded at each place about which something could turn.
func TestCaps(t *testing.T) {
	for _, n := range lengths() {
		m := busy(t, n)
		list := caps()
		for i, at := range places(n) {
			m.loadCap(at)
			m.storeCap(at, list[i%len(list)])
			m.loadCap(at)
			if i%64 == 0 {
				m.whole()
			}
		}
		m.whole()
	}
}

// P15.3: each of them at the first, a middle and the last granule.
func TestEachCap(t *testing.T) {
	m := busy(t, 8192)
	for _, at := range []uint64{0x80000000, 0x80000FF0, 0x80001000, 0x80001FF0} {
		for _, c := range caps() {
			m.storeCap(at, c)
			m.loadCap(at)
			m.whole()
		}
	}
}

// P15.3: what is right comes back as it was, with its tag or without; its bytes are those of its two numbers.
func TestCapsBack(t *testing.T) {
	b := newPair(t, 4096).b
	for i, c := range caps() {
		if !capenc.Right(c) {
			continue
		}
		at := 0x80000000 + 16*uint64(i)
		if !b.StoreCap(at, c) {
			t.Errorf("StoreCap(%#x, %+v): false", at, c)
		}
		if got, ok := b.LoadCap(at); got != c || !ok {
			t.Errorf("LoadCap(%#x): %+v, %v; want %+v", at, got, ok, c)
		}
		addr, meta := capenc.Pack(c)
		for off, want := range map[uint64]uint64{0: addr, 8: meta} {
			if v, ok := b.Load(at+off, 8); v != want || !ok {
				t.Errorf("Load(%#x, 8): %#x, %v; want %#x", at+off, v, ok, want)
			}
		}
	}
}

// P15.3: at the edges of memory, written out: in it at multiples of 16 alone.
func TestCapsEdges(t *testing.T) {
	for _, n := range lengths() {
		m := busy(t, n)
		top := 0x80000000 + uint64(n)
		for _, at := range []uint64{0x80000000, 0x80000010, 0x80000FF0, top - 16, top - 32} {
			if !m.b.StoreCap(at, capenc.Root(1, at)) {
				t.Errorf("StoreCap(%#x): false", at)
			}
			if got, ok := m.b.LoadCap(at); got != capenc.Root(1, at) || !ok {
				t.Errorf("LoadCap(%#x): %+v, %v", at, got, ok)
			}
		}
		before := stateOf(asPlain(m.b))
		for _, at := range []uint64{0x7FFFFFF0, 0x7FFFFFFF, 0x7FFFFFF8, top, top + 16, top - 8, top - 1, top - 15, 0, 16, 0x30000000, 1<<64 - 16, 1<<64 - 1, 1<<64 - 8, 1<<32 + 0x80000000, 1<<63 + 0x80000000} {
			capRefused(t, m, at)
		}
		for near := uint64(1); near < 16; near++ {
			capRefused(t, m, 0x80000000+near)
			capRefused(t, m, 0x80000FE0+near)
		}
		sameBut(t, nowhere, stateOf(asPlain(m.b)), before)
	}
}

// P15.3: in no device is there a capability: nothing is read there, nor done.
func TestCapsInDevices(t *testing.T) {
	m := busy(t, 4096)
	for _, at := range append(registers(), edges(4096)[:8]...) {
		capRefused(t, m, at)
		capRefused(t, m, at&^15)
	}
	m.whole()
}

// capRefused tells of a place at which none is.
func capRefused(t *testing.T, m pair, at uint64) {
	t.Helper()
	if got, ok := m.b.LoadCap(at); got != (api.Cap{}) || ok {
		t.Errorf("LoadCap(%#x): %+v, %v", at, got, ok)
	}
	if m.b.StoreCap(at, capenc.Root(1, 0x5555)) || m.b.StoreCap(at, capenc.Number(0x5555)) {
		t.Errorf("StoreCap(%#x): true", at)
	}
}

// P15.3: bytes that nobody stored as a capability are one without a tag; an exponent that would be more is 52.
func TestCapsOfBytes(t *testing.T) {
	m := newPair(t, 4096)
	if got, ok := m.b.LoadCap(0x80000000); got != capenc.Number(0) || !ok {
		t.Errorf("LoadCap of noughts: %+v, %v", got, ok)
	}
	for i := range uint64(2000) {
		m.store(0x80000020, 8, mix(2*i)>>(i%64))
		m.store(0x80000028, 8, mix(2*i+1)>>(i%63))
		m.loadCap(0x80000020)
	}
	m.store(0x80000028, 8, 1<<64-1)
	if got, ok := m.b.LoadCap(0x80000020); got != capenc.Unpack(false, got.Addr, 1<<64-1) || !ok || got.E > 52 {
		t.Errorf("LoadCap of ones: %+v, %v", got, ok)
	}
}

// P15.3, P15.2: each byte that is stored takes the tag of the granules in which it is, and of no other one; it is no matter whether it is the byte that was there.
func TestTagsGo(t *testing.T) {
	m := busy(t, 4096)
	for at := uint64(0x80000020); at < 0x80000040; at++ {
		for _, size := range sizes() {
			for _, granule := range []uint64{0x80000010, 0x80000020, 0x80000030, 0x80000040} {
				m.storeCap(granule, capOf(true, granule))
			}
			v, _ := m.p.load(at, size)
			m.store(at, size, v)
			for _, granule := range []uint64{0x80000010, 0x80000020, 0x80000030, 0x80000040} {
				want := at+uint64(size) <= granule || granule+16 <= at
				if got, ok := m.b.LoadCap(granule); got.Tag != want || !ok || got != capOf(want, granule) {
					t.Errorf("behind a store of %d bytes at %#x: LoadCap(%#x): %+v, %v", size, at, granule, got, ok)
				}
			}
		}
		m.whole()
	}
}

// P15.3: a capability without a tag takes the tag that was there; loads, and stores that are refused, take none.
func TestTagsStay(t *testing.T) {
	b := newPair(t, 4096).b
	root := capenc.Root(1, 9)
	b.StoreCap(0x80000FF0, root)
	b.Load(0x80000FF0, 8)
	b.LoadCap(0x80000FF0)
	b.Store(0x80000FFF, 2, 0)
	b.Store(0x80000FF0, 3, 0)
	b.StoreCap(0x80000FF8, capenc.Number(0))
	b.StoreCap(0x80001000, capenc.Number(0))
	if got, ok := b.LoadCap(0x80000FF0); got != root || !ok {
		t.Errorf("LoadCap: %+v, %v", got, ok)
	}
	root.Tag = false
	b.StoreCap(0x80000FF0, root)
	if got, ok := b.LoadCap(0x80000FF0); got != root || !ok {
		t.Errorf("LoadCap without a tag: %+v, %v", got, ok)
	}
}
