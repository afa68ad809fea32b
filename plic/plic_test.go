package plic_test

import (
	"testing"

	"ravelin/plic"
)

// P12.1: at first all is 0, and nothing pending, enabled, or in service.
func TestNew(t *testing.T) {
	m := newPair(t)
	for _, off := range registers() {
		if v, ok := m.c.Load(off, 4); v != 0 || !ok {
			t.Errorf("Load(%#x, 4): %#x, %v", off, v, ok)
		}
	}
	if m.c.Pending(0) || m.c.Pending(1) {
		t.Error("interrupted")
	}
	m.drain()
	m.c.Lines(0xFFFFFFFF)
	if v, _ := m.c.Load(0x1000, 4); v != 0xFFFFFFFE {
		t.Errorf("pending: %#x", v)
	}
}

// P12.1: controllers share nothing.
func TestApart(t *testing.T) {
	one, other := busy(t), newPair(t)
	other.whole()
	other.lines(0xFFFFFFFE)
	other.store(4, 4, 5)
	other.store(0x2000, 4, 2)
	other.load(0x200004, 4)
	one.drain()
	other.drain()
}

// P12.1: each word of lines, of which some are in service: those that are high are pending but these, the low ones are not, and the 0 never is.
func TestLines(t *testing.T) {
	for _, before := range numbers()[:100] {
		m := busy(t)
		m.lines(uint32(before))
		m.whole()
		for _, v := range numbers() {
			m.lines(uint32(v))
			m.load(0x1000, 4)
			m.pending(0)
			m.pending(1)
		}
		m.drain()
	}
}

// P12.1, P12.3: each source alone: its line rises and falls while it is not in service, while it is, and when it was completed.
func TestLineOfOne(t *testing.T) {
	for s := 1; s < 32; s++ {
		for ctx := range 2 {
			line := uint32(1) << s
			m := newPair(t)
			is := func(what string, want bool) {
				t.Helper()
				v, ok := m.c.Load(0x1000, 4)
				if got := v == uint64(line); got != want || !got && v != 0 || !ok || m.c.Pending(ctx) != want || m.c.Pending(1-ctx) {
					t.Errorf("%d for %d, %s: %#x, %v, %v", s, ctx, what, v, m.c.Pending(ctx), m.c.Pending(1-ctx))
				}
			}
			m.c.Store(4*s, 4, 1)
			m.c.Store(enables()[ctx], 4, uint64(line))
			is("at first", false)
			m.c.Lines(line)
			is("high", true)
			m.c.Lines(^line)
			if m.c.Pending(ctx) {
				t.Errorf("%d: pending by the others' lines", s)
			}
			m.c.Lines(0)
			is("low again", false)
			m.c.Lines(line)
			if v, ok := m.c.Load(claims()[ctx], 4); v != uint64(s) || !ok {
				t.Errorf("%d: claimed %d, %v", s, v, ok)
			}
			is("claimed", false)
			m.c.Lines(line)
			is("high in service", false)
			m.c.Lines(0)
			m.c.Lines(line)
			is("risen in service", false)
			m.c.Store(claims()[ctx], 4, uint64(s))
			is("completed", false)
			m.c.Lines(line)
			is("high when completed", true)
		}
	}
}

// P12.2, P12.3: all offsets about the registers, and numbers below 0.
func TestOffsets(t *testing.T) {
	m := busy(t)
	for off := -0x210000; off < 0x420000; off++ {
		m.load(off, 4)
		m.store(off, 4, uint64(off)*0x9E3779B97F4A7C15)
	}
	m.drain()
}

// P12.2, P12.3: offsets that are far off, and such as are a register's in their lowest bits.
func TestOffsetsFar(t *testing.T) {
	m := busy(t)
	for _, off := range far() {
		m.load(off, 4)
		m.store(off, 4, 0xFFFFFFFFFFFFFFFF)
	}
	for shift := 22; shift < 64; shift++ {
		for _, off := range registers() {
			for _, at := range []int{1<<shift + off, -1<<shift + off, 1<<shift - off, -1<<shift | off<<1} {
				m.load(at, 4)
				m.store(at, 4, 0xFFFFFFFFFFFFFFFF)
			}
		}
	}
	m.drain()
}

// P12.2, P12.3: sizes beside 4 read nothing, claim nothing, lay nothing and complete nothing.
func TestSizes(t *testing.T) {
	m := busy(t)
	for _, size := range noSizes() {
		for _, off := range registers() {
			for at := off - 8; at <= off+4; at++ {
				m.load(at, size)
				m.store(at, size, 0xFFFFFFFFFFFFFFFF)
			}
		}
		for s := range uint64(32) {
			m.store(0x200004, size, s)
			m.store(0x201004, size, s)
		}
	}
	m.drain()
}

// P12.2, P12.3: how many registers there are.
func TestHowMany(t *testing.T) {
	reads, writes := 0, 0
	c := plic.New()
	for off := -0x10000; off < 0x400000; off++ {
		if _, ok := c.Load(off, 4); ok {
			reads++
		}
		if c.Store(off, 4, 0) {
			writes++
		}
	}
	if reads != 39 || writes != 39 {
		t.Errorf("%d that are read, %d that are written", reads, writes)
	}
}

// P12.3: a priority is three bits, of its source alone; the 0 has none.
func TestPriority(t *testing.T) {
	m := busy(t)
	for _, v := range numbers() {
		for s := range 32 {
			m.store(4*s, 4, v)
			want := v & 7
			if s == 0 {
				want = 0
			}
			if got, ok := m.c.Load(4*s, 4); got != want || !ok {
				t.Errorf("%d by %#x: %d, %v", s, v, got, ok)
			}
		}
		m.whole()
	}
	for s := range 32 {
		m.store(4*s, 4, uint64(s+3))
		m.whole()
	}
	m.drain()
}

// P12.3: the source 0 is none, even where all is done that makes others interrupt.
func TestNoSource(t *testing.T) {
	m := newPair(t)
	for _, off := range []int{0, 0x2000, 0x2080} {
		m.store(off, 4, 0xFFFFFFFFFFFFFFFF)
	}
	m.lines(1)
	for range 3 {
		if m.c.Pending(0) || m.c.Pending(1) {
			t.Error("interrupted")
		}
		for _, off := range claims() {
			if v, ok := m.c.Load(off, 4); v != 0 || !ok {
				t.Errorf("claimed %d, %v", v, ok)
			}
			m.store(off, 4, 0)
		}
	}
	m.drain()
}

// P12.3: a threshold is three bits, of its context alone.
func TestThreshold(t *testing.T) {
	m := busy(t)
	for _, v := range numbers() {
		for ctx, off := range thresholds() {
			other, _ := m.c.Load(thresholds()[1-ctx], 4)
			m.store(off, 4, v)
			if got, ok := m.c.Load(off, 4); got != v&7 || !ok {
				t.Errorf("%d by %#x: %d, %v", ctx, v, got, ok)
			}
			if got, _ := m.c.Load(thresholds()[1-ctx], 4); got != other {
				t.Errorf("%d turned %d into %d", ctx, other, got)
			}
			m.whole()
		}
	}
	m.drain()
}

// P12.3: what is enabled is 32 bits but bit 0, of its context alone.
func TestEnabled(t *testing.T) {
	m := busy(t)
	for _, v := range numbers() {
		for ctx, off := range enables() {
			other, _ := m.c.Load(enables()[1-ctx], 4)
			m.store(off, 4, v)
			if got, ok := m.c.Load(off, 4); got != v&0xFFFFFFFE || !ok {
				t.Errorf("%d by %#x: %#x, %v", ctx, v, got, ok)
			}
			if got, _ := m.c.Load(enables()[1-ctx], 4); got != other {
				t.Errorf("%d turned %#x into %#x", ctx, other, got)
			}
			m.whole()
		}
	}
	m.drain()
}

// P12.3: which are pending stays, whatever is stored there.
func TestPendingStays(t *testing.T) {
	m := busy(t)
	for _, high := range []uint32{0x3FFFFFFF, 0, 0xFFFFFFFF, 0x5A5A5A5A} {
		m.lines(high)
		for _, v := range numbers() {
			m.store(0x1000, 4, v)
			m.whole()
		}
	}
	m.drain()
}

// P12.4: each source alone, by each priority and each threshold, pending or not, enabled or not, for each context.
func TestPending(t *testing.T) {
	for s := 1; s < 32; s++ {
		for i := range 8 * 8 * 16 {
			rank, threshold := uint64(i%8), uint64(i/8%8)
			high, one, two := i>>6&1 == 1, i>>7&1 == 1, i>>8&1 == 1
			m := newPair(t)
			m.store(4*s, 4, rank)
			for ctx, is := range []bool{one, two} {
				m.store(thresholds()[ctx], 4, threshold)
				m.store(enables()[ctx], 4, bitIf(is, s))
			}
			m.lines(uint32(bitIf(high, s)))
			for ctx, is := range []bool{one, two} {
				want := high && is && rank > threshold
				if got := m.c.Pending(ctx); got != want {
					t.Errorf("%d, priority %d, threshold %d, high %v, enabled %v: %v for %d", s, rank, threshold, high, is, got, ctx)
				}
			}
			m.whole()
		}
	}
}

// bitIf is all bits but one, and that, too, if it is.
func bitIf(is bool, bit int) uint64 {
	v := uint64(0xFFFFFFFF) &^ (1 << bit)
	if is {
		v = 0xFFFFFFFF
	}
	return v
}

// P12.4: contexts that there are not.
func TestNoContext(t *testing.T) {
	m := ready(t)
	for ctx := -70000; ctx <= 70000; ctx++ {
		m.pending(ctx)
	}
	for _, ctx := range far() {
		m.pending(ctx)
	}
	for shift := 2; shift < 64; shift++ {
		m.pending(1 << shift)
		m.pending(1<<shift | 1)
		m.pending(-1 << shift)
		m.pending(-1<<shift | 1)
	}
	m.whole()
}

// P12.2: two sources, of each two priorities: the greater one is claimed first, of like ones the lesser number, and none of priority 0; thresholds are nothing to claims.
func TestClaimOfTwo(t *testing.T) {
	for one := 1; one < 32; one++ {
		for two := one + 1; two < 32; two++ {
			for i := range uint64(64) {
				p, q := i%8, i/8
				ctx := (one + two + int(i)) % 2
				m := newPair(t)
				m.store(4*one, 4, p)
				m.store(4*two, 4, q)
				m.store(enables()[ctx], 4, 1<<one|1<<two)
				m.store(thresholds()[ctx], 4, 7)
				m.lines(1<<one | 1<<two)
				for _, want := range inOrder(one, two, p, q) {
					if got, ok := m.c.Load(claims()[1-ctx], 4); got != 0 || !ok {
						t.Errorf("%d (%d), %d (%d): claimed %d, %v by the other context", one, p, two, q, got, ok)
					}
					if got, ok := m.c.Load(claims()[ctx], 4); got != uint64(want) || !ok {
						t.Errorf("%d (%d), %d (%d): claimed %d, %v; want %d", one, p, two, q, got, ok, want)
					}
				}
			}
		}
	}
}

// inOrder is what three claims of two sources with these priorities answer, the first one's number being less.
func inOrder(one, two int, p, q uint64) [3]int {
	switch {
	case p == 0 && q == 0:
		return [3]int{}
	case p == 0:
		return [3]int{two}
	case q == 0:
		return [3]int{one}
	case q > p:
		return [3]int{two, one}
	}
	return [3]int{one, two}
}

// P12.2: all sources, with each rule for their priorities: claimed until there is none any more, by each context of what is enabled for it.
func TestClaimOfAll(t *testing.T) {
	for _, rule := range []func(s int) uint64{
		func(s int) uint64 { return 7 },
		func(s int) uint64 { return 1 },
		func(s int) uint64 { return 0 },
		func(s int) uint64 { return uint64(s % 8) },
		func(s int) uint64 { return uint64(31-s) / 4 },
		func(s int) uint64 { return uint64(s) / 4 },
		func(s int) uint64 { return mix(uint64(s)) },
	} {
		for _, enabled := range []uint64{0xFFFFFFFF, 0, 0x55555555, 0xAAAAAAAA, 0xFFFF, 0xFFFF0000, mix(5)} {
			m := newPair(t)
			for s := range 32 {
				m.store(4*s, 4, rule(s))
			}
			m.store(0x2000, 4, enabled)
			m.store(0x2080, 4, ^enabled)
			m.lines(0x7FFFFFFF)
			for range 33 {
				m.load(0x200004, 4)
				m.whole()
			}
			for range 33 {
				m.load(0x201004, 4)
				m.whole()
			}
			m.drain()
		}
	}
}

// P12.2: a claim takes what it answers, and nothing else, out of what is pending.
func TestClaimTakesOne(t *testing.T) {
	for _, off := range claims() {
		m := ready(t)
		left := uint64(0xFFFFFFFE)
		for s := uint64(1); s < 32; s++ {
			if v, ok := m.c.Load(off, 4); v != s || !ok {
				t.Errorf("claimed %d, %v; want %d", v, ok, s)
			}
			left &^= 1 << s
			if v, _ := m.c.Load(0x1000, 4); v != left {
				t.Errorf("pending: %#x; want %#x", v, left)
			}
			if is := left != 0; m.c.Pending(0) != is || m.c.Pending(1) != is {
				t.Errorf("with %#x: %v, %v", left, m.c.Pending(0), m.c.Pending(1))
			}
		}
		if v, ok := m.c.Load(off, 4); v != 0 || !ok {
			t.Errorf("claimed %d, %v", v, ok)
		}
	}
}

// P12.3: each source in service is completed by a context for which it is enabled, whoever claimed it, and by no other one.
func TestComplete(t *testing.T) {
	for s := 1; s < 32; s++ {
		for by := range 2 {
			for _, is := range []bool{true, false} {
				for _, above := range []uint64{0, 1 << 32, 1 << 63, 0xFFFFFFFF << 32} {
					m := ready(t)
					for range 31 {
						m.load(claims()[s%2], 4)
					}
					m.store(enables()[by], 4, bitIf(is, s))
					m.store(enables()[1-by], 4, bitIf(!is, s))
					m.store(claims()[by], 4, above|uint64(s))
					if v, _ := m.c.Load(0x1000, 4); v != 0 {
						t.Errorf("%d: pending by being completed: %#x", s, v)
					}
					m.lines(0xFFFFFFFF)
					want := 0xFFFFFFFF &^ bitIf(false, s)
					if !is {
						want = 0
					}
					if v, _ := m.c.Load(0x1000, 4); v != want {
						t.Errorf("%d by %d, enabled %v: pending %#x; want %#x", s, by, is, v, want)
					}
					m.drain()
				}
			}
		}
	}
}

// P12.3: what is enabled when it is completed tells, not what was when it was claimed; priorities and thresholds are nothing to it.
func TestCompleteThen(t *testing.T) {
	m := ready(t)
	m.load(0x200004, 4)
	m.store(0x2000, 4, 0)
	m.store(0x200004, 4, 1)
	m.lines(2)
	m.whole()
	m.store(0x2000, 4, 2)
	m.store(4, 4, 0)
	m.store(0x200000, 4, 7)
	m.store(0x200004, 4, 1)
	m.lines(2)
	if v, _ := m.c.Load(0x1000, 4); v != 2 {
		t.Errorf("pending: %#x", v)
	}
	m.drain()
}

// P12.3: numbers that are no source's complete nothing, though they are one's in their lowest bits.
func TestCompleteNothing(t *testing.T) {
	for _, off := range claims() {
		m := ready(t)
		for range 31 {
			m.load(off, 4)
		}
		list := []uint64{0, 1 << 32, 1 << 63, 0xFFFFFFFF, 0xFFFFFFFFFFFFFFFF, 0x80000000, 0x80000001}
		for s := range uint64(32) {
			for shift := 5; shift < 32; shift++ {
				list = append(list, s|1<<shift, s<<32|1<<shift)
			}
			list = append(list, s<<32, ^s)
		}
		for _, v := range list {
			m.store(off, 4, v)
			m.c.Lines(0xFFFFFFFF)
			if got, _ := m.c.Load(0x1000, 4); got != 0 {
				t.Fatalf("completed by %#x: %#x", v, got)
			}
		}
	}
}

// P12.3: to complete what is not in service changes nothing: what is pending stays so.
func TestCompletePending(t *testing.T) {
	m := ready(t)
	for _, off := range claims() {
		for s := range uint64(40) {
			m.store(off, 4, s)
			if v, _ := m.c.Load(0x1000, 4); v != 0xFFFFFFFE {
				t.Errorf("by %d: pending %#x", s, v)
			}
		}
	}
	m.drain()
}

// P12.2, P12.4: what only asks changes nothing, and is answered likewise again.
func TestAskAgain(t *testing.T) {
	m := busy(t)
	for range 4 {
		m.whole()
	}
	m.drain()
}

// step does to both what a number says: mostly what can be done, now and then what can't.
func (m pair) step(state uint64) {
	v, w := mix(state+1), mix(state+2)
	off, size := registers()[v%39], 4
	switch v >> 8 % 32 {
	case 0:
		size = int(w>>40%20) - 2
	case 1:
		off += int(w>>40%9) - 4
	}
	switch w >> 8 % 8 {
	case 0, 1:
		m.lines(uint32(mix(state+3) | mix(state+4)))
	case 2:
		m.lines(uint32(v >> 32))
	case 3:
		m.load(claims()[v>>16%2], size)
	case 4: // a number that may be in service
		m.store(claims()[v>>16%2], size, w>>20%34)
	case 5:
		m.load(off, size)
	default:
		m.store(off, size, mix(state+3))
	}
}

// P12.1 to P12.4: calls in any order, held against a plain controller.
func TestAnyOrder(t *testing.T) {
	for round := range uint64(40) {
		m := newPair(t)
		for i := range uint64(4000) {
			m.step(round<<40 + i*8)
			m.whole()
		}
		m.drain()
	}
}

// P12.5: in any order of calls: between two claims of a source it was completed, and then told of.
func TestOnce(t *testing.T) {
	m := ready(t)
	const free, served, done = 0, 1, 2
	var states [32]int
	count := 0
	for i := range uint64(200000) {
		v := mix(i)
		ctx := int(v >> 8 % 2)
		s := v >> 16 % 32
		switch v % 4 {
		case 0, 1:
			got, _ := m.c.Load(claims()[ctx], 4)
			if got > 31 || got > 0 && states[got] != free {
				t.Fatalf("%d is claimed, its state being %d", got, states[got])
			}
			if got > 0 {
				states[got] = served
				count++
			}
		case 2:
			m.c.Store(enables()[ctx], 4, v>>32)
			m.c.Store(claims()[ctx], 4, s)
			if v>>32>>s&1 == 1 && states[s] == served {
				states[s] = done
			}
		case 3:
			lines := uint32(mix(v))
			m.c.Lines(lines)
			for at := range states {
				if lines>>at&1 == 1 && states[at] == done {
					states[at] = free
				}
			}
		}
	}
	if count < 1000 {
		t.Errorf("%d claims", count)
	}
}

// P12.6: in any order of calls: a context that is interrupted claims a source of a priority above its threshold; one that is not claims none of such.
func TestInterrupted(t *testing.T) {
	m := newPair(t)
	count := 0
	for i := range uint64(100000) {
		m.step(1<<50 + i*8)
		ctx := int(mix(i) % 2)
		threshold, _ := m.c.Load(thresholds()[ctx], 4)
		is := m.c.Pending(ctx)
		if !is && mix(i)>>8%4 > 0 {
			continue
		}
		m.p.claim(ctx)
		s, _ := m.c.Load(claims()[ctx], 4)
		priority, _ := m.c.Load(int(4*s), 4)
		if got := s != 0 && priority > threshold; got != is {
			t.Fatalf("interrupted: %v; claimed %d of priority %d, the threshold being %d", is, s, priority, threshold)
		}
		if is {
			count++
		}
	}
	if count < 1000 {
		t.Errorf("%d interruptions", count)
	}
}

// P12.1 to P12.4: the chapter's examples.
func TestExamples(t *testing.T) {
	c := plic.New()
	store := func(off int, v uint64) {
		t.Helper()
		if !c.Store(off, 4, v) {
			t.Errorf("Store %x", off)
		}
	}
	claim := func(want uint64) {
		t.Helper()
		if v, ok := c.Load(0x200004, 4); v != want || !ok {
			t.Errorf("Load 200004: %d, %v; want %d", v, ok, want)
		}
	}
	pending := func(ctx int, want bool) {
		t.Helper()
		if got := c.Pending(ctx); got != want {
			t.Errorf("Pending %d: %v", ctx, got)
		}
	}
	store(4, 3)
	store(8, 5)
	store(0x2000, 6)
	c.Lines(6)
	pending(0, true)
	pending(1, false)
	claim(2)
	claim(1)
	claim(0)
	c.Lines(6)
	pending(0, false)
	store(0x200004, 2)
	pending(0, false)
	c.Lines(6)
	pending(0, true)
}
