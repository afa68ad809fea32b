package plic_test

import (
	"math"
	"testing"

	"ravelin/plic"
)

// plain is what the document says of the controller, with a truth for each source.
type plain struct {
	priority           [32]uint64
	pending, inService [32]bool
	enabled            [2][32]bool
	threshold          [2]uint64
}

// lines is what Lines does.
func (p *plain) lines(m uint32) {
	for s := 1; s < 32; s++ {
		switch high := m>>s%2 == 1; {
		case !high:
			p.pending[s] = false
		case !p.inService[s]:
			p.pending[s] = true
		}
	}
}

// best is the source that a context claims, and 0 if there is none.
func (p *plain) best(ctx int) int {
	for rank := uint64(7); rank > 0; rank-- {
		for s := 1; s < 32; s++ {
			if p.pending[s] && p.enabled[ctx][s] && p.priority[s] == rank {
				return s
			}
		}
	}
	return 0
}

// word is truths as bits.
func word(list [32]bool) uint64 {
	v := uint64(0)
	for s, is := range list {
		if is {
			v += 1 << s
		}
	}
	return v
}

// load is what Load answers, and does.
func (p *plain) load(off, size int) (uint64, bool) {
	if size != 4 {
		return 0, false
	}
	if off >= 0 && off <= 124 && off%4 == 0 {
		return p.priority[off/4], true
	}
	switch off {
	case 0x1000:
		return word(p.pending), true
	case 0x2000:
		return word(p.enabled[0]), true
	case 0x2080:
		return word(p.enabled[1]), true
	case 0x200000:
		return p.threshold[0], true
	case 0x201000:
		return p.threshold[1], true
	case 0x200004:
		return p.claim(0), true
	case 0x201004:
		return p.claim(1), true
	}
	return 0, false
}

// claim is what is claimed by a context.
func (p *plain) claim(ctx int) uint64 {
	s := p.best(ctx)
	if s > 0 {
		p.pending[s], p.inService[s] = false, true
	}
	return uint64(s)
}

// store is what Store does, and answers.
func (p *plain) store(off, size int, v uint64) bool {
	if size != 4 {
		return false
	}
	if off >= 0 && off <= 124 && off%4 == 0 {
		if off > 0 {
			p.priority[off/4] = v % 8
		}
		return true
	}
	switch off {
	case 0x1000:
	case 0x2000:
		p.enable(0, v)
	case 0x2080:
		p.enable(1, v)
	case 0x200000:
		p.threshold[0] = v % 8
	case 0x201000:
		p.threshold[1] = v % 8
	case 0x200004:
		p.complete(0, v)
	case 0x201004:
		p.complete(1, v)
	default:
		return false
	}
	return true
}

// enable says which sources are enabled for a context.
func (p *plain) enable(ctx int, v uint64) {
	for s := 1; s < 32; s++ {
		p.enabled[ctx][s] = v>>s%2 == 1
	}
}

// complete is what a context completes by a number.
func (p *plain) complete(ctx int, v uint64) {
	if n := v % (1 << 32); n < 32 && p.enabled[ctx][n] {
		p.inService[n] = false
	}
}

// isPending is what Pending answers.
func (p *plain) isPending(ctx int) bool {
	if ctx != 0 && ctx != 1 {
		return false
	}
	for s := 1; s < 32; s++ {
		if p.pending[s] && p.enabled[ctx][s] && p.priority[s] > p.threshold[ctx] {
			return true
		}
	}
	return false
}

// pair is a controller, and a plain one to which the same is done.
type pair struct {
	t *testing.T
	c *plic.Plic
	p *plain
}

// newPair is two that are as they are at first.
func newPair(t *testing.T) pair {
	t.Helper()
	c := plic.New()
	if c == nil {
		t.Fatal("New: none")
	}
	return pair{t, c, &plain{}}
}

// busy is two of which no two registers have the same, some sources are pending, some in service, and some could be claimed by each context.
func busy(t *testing.T) pair {
	t.Helper()
	m := newPair(t)
	for s := 1; s < 32; s++ {
		m.store(4*s, 4, uint64(s%7+1))
	}
	m.store(0x2000, 4, 0xFFFFFFFF)
	m.store(0x2080, 4, 0xFFFFFFFF)
	m.lines(0x3FFFFFFF)
	for range 6 {
		m.load(0x200004, 4)
		m.load(0x201004, 4)
	}
	m.store(0x2000, 4, 0x7A5BA5A6)
	m.store(0x2080, 4, 0xC5A95A9C)
	m.store(0x200000, 4, 3)
	m.store(0x201000, 4, 6)
	m.whole()
	return m
}

// ready is two of which all sources are pending, and enabled for both contexts, with the greatest priority.
func ready(t *testing.T) pair {
	t.Helper()
	m := newPair(t)
	for s := 1; s < 32; s++ {
		m.store(4*s, 4, 7)
	}
	m.store(0x2000, 4, 0xFFFFFFFF)
	m.store(0x2080, 4, 0xFFFFFFFF)
	m.lines(0xFFFFFFFF)
	m.whole()
	return m
}

// lines says to both which lines are high.
func (m pair) lines(v uint32) {
	m.c.Lines(v)
	m.p.lines(v)
}

// load loads from both.
func (m pair) load(off, size int) {
	m.t.Helper()
	want, wantOk := m.p.load(off, size)
	if got, ok := m.c.Load(off, size); got != want || ok != wantOk {
		m.t.Errorf("Load(%#x, %d): %#x, %v; want %#x, %v", off, size, got, ok, want, wantOk)
	}
}

// store stores to both.
func (m pair) store(off, size int, v uint64) {
	m.t.Helper()
	want := m.p.store(off, size, v)
	if got := m.c.Store(off, size, v); got != want {
		m.t.Errorf("Store(%#x, %d, %#x): %v; want %v", off, size, v, got, want)
	}
}

// pending asks both whether a context is interrupted.
func (m pair) pending(ctx int) {
	m.t.Helper()
	want := m.p.isPending(ctx)
	if got := m.c.Pending(ctx); got != want {
		m.t.Errorf("Pending(%d): %v; want %v", ctx, got, want)
	}
}

// whole holds all against each other that can be asked without a change.
func (m pair) whole() {
	m.t.Helper()
	for _, off := range registers() {
		if off != 0x200004 && off != 0x201004 {
			m.load(off, 4)
		}
	}
	m.pending(0)
	m.pending(1)
	if m.t.Failed() {
		m.t.FailNow()
	}
}

// drain holds what is in service against each other: the sources that are not pending with all lines high. Then each context claims all that it can.
func (m pair) drain() {
	m.t.Helper()
	m.whole()
	m.lines(0xFFFFFFFF)
	m.whole()
	for range 33 {
		m.load(0x201004, 4)
		m.whole()
		m.load(0x200004, 4)
		m.whole()
	}
}

// registers is where there are some.
func registers() []int {
	list := []int{0x1000, 0x2000, 0x2080, 0x200000, 0x200004, 0x201000, 0x201004}
	for s := range 32 {
		list = append(list, 4*s)
	}
	return list
}

// claims is where the contexts' claims are.
func claims() []int { return []int{0x200004, 0x201004} }

// enables is where is what is enabled for the contexts.
func enables() []int { return []int{0x2000, 0x2080} }

// thresholds is where the contexts' are.
func thresholds() []int { return []int{0x200000, 0x201000} }

// far is numbers that are out of all bounds, and such as turn into small ones where something is added, multiplied or cut off.
func far() []int {
	list := []int{1 << 31, 1<<31 - 1, -1 << 31, 1 << 32, 1<<32 + 1, 1<<32 + 4, 1<<32 - 1, -1 << 32, 1 << 48, 1 << 60, 1 << 61, 1<<61 + 4, 1 << 62, 1<<62 + 4, -1 << 62}
	for i := range 20 {
		list = append(list, math.MaxInt-i, math.MinInt+i)
	}
	return list
}

// noSizes is numbers that are not 4.
func noSizes() []int {
	list := append(far(), 32, 64, 128, 256, 260, 1028, 4096, 65540)
	for size := -16; size <= 24; size++ {
		if size != 4 {
			list = append(list, size)
		}
	}
	return list
}

// numbers is what is stored: each bit alone, all but it, all numbers of few bits, and some that look like chance.
func numbers() []uint64 {
	var list []uint64
	for i := range 64 {
		list = append(list, 1<<i, ^(uint64(1) << i), mix(uint64(i)))
	}
	for v := range uint64(80) {
		list = append(list, v, v<<32|0x55, 1<<32+v, 1<<31+v, ^v)
	}
	return list
}

// mix is a number that looks like chance, and is the same for the same one.
func mix(v uint64) uint64 {
	z := (v + 1) * 0x9E3779B97F4A7C15
	z = (z ^ z>>30) * 0xBF58476D1CE4E5B9
	z = (z ^ z>>27) * 0x94D049BB133111EB
	return z ^ z>>31
}
