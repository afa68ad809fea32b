package ram_test

import (
	"math"
	"slices"
	"testing"

	"ravelin/api"
	"ravelin/ram"
)

// plain is what the document says of memory, done byte by byte: so many bytes, and for each sixteen of them a tag.
type plain struct {
	bytes []byte
	tags  []bool
}

// plainOf is plain memory of so many noughts.
func plainOf(n int) *plain {
	return &plain{make([]byte, n), make([]bool, n/16)}
}

// has tells whether all these bytes are there.
func (p *plain) has(off, size int) bool {
	n := len(p.bytes)
	return 0 <= off && off < n && size <= n && off <= n-size
}

// isSize tells whether that is a size.
func isSize(size int) bool { return size == 1 || size == 2 || size == 4 || size == 8 }

// load is what Load answers.
func (p *plain) load(off, size int) (uint64, bool) {
	if !isSize(size) || !p.has(off, size) {
		return 0, false
	}
	v := uint64(0)
	for i := size - 1; i >= 0; i-- {
		v = v*256 + uint64(p.bytes[off+i])
	}
	return v, true
}

// store is what Store does, and answers.
func (p *plain) store(off, size int, v uint64) bool {
	if !isSize(size) || !p.has(off, size) {
		return false
	}
	for i := off; i < off+size; i++ {
		p.bytes[i] = byte(v % 256)
		p.tags[i/16] = false
		v /= 256
	}
	return true
}

// granule is what LoadCap answers.
type granule struct {
	tag        bool
	addr, meta uint64
	ok         bool
}

// loadCap is what LoadCap answers.
func (p *plain) loadCap(off int) granule {
	if !p.has(off, 16) || off%16 != 0 {
		return granule{}
	}
	addr, _ := p.load(off, 8)
	meta, _ := p.load(off+8, 8)
	return granule{p.tags[off/16], addr, meta, true}
}

// storeCap is what StoreCap does, and answers.
func (p *plain) storeCap(off int, tag bool, addr, meta uint64) bool {
	if !p.has(off, 16) || off%16 != 0 {
		return false
	}
	p.store(off, 8, addr)
	p.store(off+8, 8, meta)
	p.tags[off/16] = tag
	return true
}

// tagged is what Tagged answers.
func (p *plain) tagged() []int {
	var list []int
	for i, tag := range p.tags {
		if tag {
			list = append(list, 16*i)
		}
	}
	return list
}

// pair is a memory, and a plain one to which the same is done.
type pair struct {
	t *testing.T
	r *ram.Ram
	p *plain
}

// newPair is two memories of so many noughts.
func newPair(t *testing.T, n int) pair {
	t.Helper()
	r, e := ram.New(n)
	if r == nil || e != api.OK {
		t.Fatalf("New(%d): %v, %d", n, r, e)
	}
	return pair{t, r, plainOf(n)}
}

// full is two memories of which each byte tells its place, and each granule has a tag.
func full(t *testing.T, n int) pair {
	t.Helper()
	m := newPair(t, n)
	for off := 0; off < n; off += 16 {
		m.storeCap(off, true, mix(uint64(off)), mix(uint64(off+8)))
	}
	return m
}

// mix is a number that looks like chance, and is the same for the same one.
func mix(v uint64) uint64 {
	z := (v + 1) * 0x9E3779B97F4A7C15
	z = (z ^ z>>30) * 0xBF58476D1CE4E5B9
	z = (z ^ z>>27) * 0x94D049BB133111EB
	return z ^ z>>31
}

// load loads from both.
func (m pair) load(off, size int) {
	m.t.Helper()
	want, wantOk := m.p.load(off, size)
	if got, ok := m.r.Load(off, size); got != want || ok != wantOk {
		m.t.Errorf("Load(%d, %d): %#x, %v; want %#x, %v", off, size, got, ok, want, wantOk)
	}
}

// store stores to both.
func (m pair) store(off, size int, v uint64) {
	m.t.Helper()
	want := m.p.store(off, size, v)
	if got := m.r.Store(off, size, v); got != want {
		m.t.Errorf("Store(%d, %d, %#x): %v; want %v", off, size, v, got, want)
	}
}

// loadCap loads a granule from both.
func (m pair) loadCap(off int) {
	m.t.Helper()
	want := m.p.loadCap(off)
	tag, addr, meta, ok := m.r.LoadCap(off)
	if got := (granule{tag, addr, meta, ok}); got != want {
		m.t.Errorf("LoadCap(%d): %v; want %v", off, got, want)
	}
}

// storeCap stores a granule to both.
func (m pair) storeCap(off int, tag bool, addr, meta uint64) {
	m.t.Helper()
	want := m.p.storeCap(off, tag, addr, meta)
	if got := m.r.StoreCap(off, tag, addr, meta); got != want {
		m.t.Errorf("StoreCap(%d, %v, %#x, %#x): %v; want %v", off, tag, addr, meta, got, want)
	}
}

// tagged asks both where tags are.
func (m pair) tagged() {
	m.t.Helper()
	want := m.p.tagged()
	if got := m.r.Tagged(); !slices.Equal(got, want) {
		m.t.Errorf("Tagged: %v; want %v", got, want)
	}
}

// around holds the granules against each other that have a byte less than 32 away from a place, and all tags.
func (m pair) around(off int) {
	m.t.Helper()
	m.tagged()
	if off < -32 || off > len(m.p.bytes)+32 {
		return
	}
	for at := max(0, off-32) / 16 * 16; at <= off+32 && at < len(m.p.bytes); at += 16 {
		m.loadCap(at)
	}
}

// whole holds all bytes and all tags against each other.
func (m pair) whole() {
	m.t.Helper()
	n := len(m.p.bytes)
	if got := m.r.Len(); got != n {
		m.t.Errorf("Len: %d; want %d", got, n)
	}
	for off := 0; off < n; off += 16 {
		m.loadCap(off)
	}
	for off := range n {
		if got, ok := m.r.Load(off, 1); got != uint64(m.p.bytes[off]) || !ok {
			m.t.Errorf("Load(%d, 1): %#x, %v; want %#x", off, got, ok, m.p.bytes[off])
		}
	}
	m.tagged()
	if m.t.Failed() {
		m.t.FailNow()
	}
}

// lengths is how long memories are: the least, the greatest, and some between.
func lengths() []int { return []int{4096, 8192, 12288, 61440, 65536} }

// far is numbers that are out of all bounds, and such as turn into small ones where something is added, multiplied or cut off.
func far() []int {
	list := []int{1 << 31, 1<<31 - 1, -1 << 31, 1 << 32, 1<<32 + 1, 1<<32 + 16, 1<<32 - 1, -1 << 32, 1<<32 + 4096, 1 << 48, 1 << 60, 1<<60 + 16, 1 << 62, 1<<62 + 4096, -1 << 62}
	for i := range 20 {
		list = append(list, math.MaxInt-i, math.MinInt+i)
	}
	return append(list, math.MaxInt-4095, math.MinInt+4080, math.MinInt+4096, math.MaxInt-65535, math.MinInt+65536)
}

// places is those about the ends of memory of n bytes, of granules, of the words of tags, and such as are none.
func places(n int) []int {
	list := far()
	for _, about := range []int{0, 64, 1024, 2048, n / 2, n - 1024, n, 65536, -n, -4096, -65536, 2 * n} {
		for off := about - 33; off <= about+33; off++ {
			list = append(list, off)
		}
	}
	return list
}

// sizes is those that there are.
func sizes() []int { return []int{1, 2, 4, 8} }

// noSizes is numbers that are no sizes.
func noSizes() []int {
	list := []int{-8, -4, -2, -1, 0, 3, 5, 6, 7, 9, 10, 12, 15, 16, 17, 24, 32, 64, 128, 256, 257, 264, 4096, 65536, 1<<32 + 2, 1<<32 + 8, 1<<62 + 1}
	return append(list, far()...)
}
