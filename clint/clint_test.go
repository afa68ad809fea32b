package clint_test

import (
	"math"
	"testing"

	"ravelin/clint"
)

// P13.1: at first the time is 0, the alarm 2^64 - 1, the bell 0.
func TestNew(t *testing.T) {
	c := clint.New()
	for _, x := range []struct {
		at   place
		want uint64
	}{{place{0, 4}, 0}, {place{0x4000, 8}, 1<<64 - 1}, {place{0x4000, 4}, 1<<32 - 1}, {place{0x4004, 4}, 1<<32 - 1}, {place{0xBFF8, 8}, 0}, {place{0xBFF8, 4}, 0}, {place{0xBFFC, 4}, 0}} {
		if v, ok := c.Load(x.at.off, x.at.size); v != x.want || !ok {
			t.Errorf("Load(%#x, %d): %#x, %v", x.at.off, x.at.size, v, ok)
		}
	}
	if c.Time() != 0 || c.Timer() || c.Soft() {
		t.Errorf("Time %d, Timer %v, Soft %v", c.Time(), c.Timer(), c.Soft())
	}
	newPair(t).whole()
}

// P13.1: clints share nothing.
func TestApart(t *testing.T) {
	one, other := newPair(t), newPair(t)
	one.store(0, 4, 1)
	one.store(0x4000, 8, 7)
	one.tick(9)
	other.whole()
	other.tick(3)
	other.store(0x4004, 4, 2)
	one.whole()
	other.whole()
	newPair(t).whole()
}

// P13.1: from each time, ticks of no, of few, of many, and of numbers below 0; over 2^64, too.
func TestTick(t *testing.T) {
	for _, time := range numbers() {
		for _, n := range steps() {
			m := set(t, time, mix(time))
			m.store(0, 4, time)
			m.tick(n)
			m.whole()
			m.tick(n)
			m.whole()
		}
	}
}

// P13.1: ticks add up, one by one, and go over 2^64 to 0.
func TestTicks(t *testing.T) {
	m := newPair(t)
	for i := range uint64(5000) {
		if m.c.Time() != i {
			t.Fatalf("%d behind %d ticks", m.c.Time(), i)
		}
		m.tick(1)
	}
	m.whole()
	m.store(0xBFF8, 8, math.MaxUint64-1)
	for _, want := range []uint64{math.MaxUint64 - 1, math.MaxUint64, 0, 1} {
		if m.c.Time() != want {
			t.Errorf("%#x; want %#x", m.c.Time(), want)
		}
		m.tick(1)
	}
	m.whole()
}

// P13.1: three ticks of the greatest number go over 2^64 at the third.
func TestTickMost(t *testing.T) {
	c := clint.New()
	for _, want := range []uint64{1<<63 - 1, 1<<64 - 2, 1<<63 - 3} {
		c.Tick(math.MaxInt)
		if c.Time() != want {
			t.Errorf("%#x; want %#x", c.Time(), want)
		}
	}
}

// P13.1: numbers below 0 turn nothing, neither the time, nor whether it interrupts.
func TestTickBelow(t *testing.T) {
	for _, n := range steps() {
		if n > 0 {
			continue
		}
		for _, time := range ends() {
			c := clint.New()
			c.Store(0xBFF8, 8, time)
			c.Store(0x4000, 8, time)
			c.Tick(n)
			if c.Time() != time || !c.Timer() {
				t.Errorf("%#x by %d: %#x, %v", time, n, c.Time(), c.Timer())
			}
		}
	}
}

// P13.1: the alarm at, before and behind the time, as numbers that have no sign, whichever of both was laid last.
func TestTimer(t *testing.T) {
	for _, time := range numbers() {
		for _, alarm := range numbers() {
			c := clint.New()
			c.Store(0x4000, 8, alarm)
			c.Store(0xBFF8, 8, time)
			if got := c.Timer(); got != (time >= alarm) {
				t.Fatalf("the time %#x, the alarm %#x: %v", time, alarm, got)
			}
			c.Store(0xBFF8, 8, alarm)
			c.Store(0x4000, 8, time)
			if got := c.Timer(); got != (alarm >= time) {
				t.Fatalf("the time %#x, the alarm %#x: %v", alarm, time, got)
			}
		}
	}
}

// P13.1: the time comes to the alarm, tick by tick.
func TestTimerComes(t *testing.T) {
	for _, alarm := range ends() {
		m := set(t, alarm-3, alarm)
		for i := range 6 {
			if alarm >= 3 && alarm < math.MaxUint64-2 && m.c.Timer() != (i >= 3) {
				t.Errorf("%d ticks from 3 before %#x: %v", i, alarm, m.c.Timer())
			}
			m.tick(1)
			m.whole()
		}
	}
}

// P13.1, P13.2: the bell is the lowest bit alone of what is stored, and whether software interrupts is the bell alone.
func TestBell(t *testing.T) {
	m := busy(t)
	for _, v := range append(numbers(), 2, 3, 4, 6, 7, 0xFE, 0xFF, 1<<32|1, 1<<32) {
		for _, before := range []uint64{0, 1} {
			m.store(0, 4, before)
			m.store(0, 4, v)
			if got, ok := m.c.Load(0, 4); got != v&1 || !ok || m.c.Soft() != (v&1 == 1) {
				t.Errorf("%#x over %d: %#x, %v, %v", v, before, got, ok, m.c.Soft())
			}
			m.whole()
		}
	}
}

// P13.1: neither the time nor the alarm rings the bell, and the bell moves neither.
func TestBellApart(t *testing.T) {
	for _, v := range numbers() {
		for _, bell := range []uint64{0, 1} {
			m := newPair(t)
			m.store(0, 4, bell)
			m.store(0x4000, 8, v)
			m.store(0xBFF8, 8, ^v)
			m.tick(int(v >> 1))
			m.whole()
			m.store(0, 4, 1-bell)
			m.whole()
		}
	}
}

// P13.2, P13.3: what is stored in a register, over whatever stood there, is loaded, as many of its lowest bits as the register has; the other registers stay, but those that are a part of it, or it of them.
func TestRegisters(t *testing.T) {
	m := busy(t)
	for _, r := range registers() {
		for _, v := range numbers() {
			want := v
			switch {
			case r.off == 0:
				want = v & 1
			case r.size == 4:
				want = v & 0xFFFFFFFF
			}
			for _, before := range []uint64{0, math.MaxUint64, mix(v)} {
				m.store(r.off, r.size, before)
				m.store(r.off, r.size, v)
				if got, ok := m.c.Load(r.off, r.size); got != want || !ok {
					t.Errorf("Load(%#x, %d): %#x, %v; want %#x", r.off, r.size, got, ok, want)
				}
				m.whole()
			}
		}
	}
}

// P13.2, P13.3: halves are parts of the whole, and of a half that is stored the other one stays.
func TestHalves(t *testing.T) {
	for _, at := range []int{0x4000, 0xBFF8} {
		for _, whole := range numbers() {
			for _, half := range ends() {
				c := clint.New()
				c.Store(at, 8, whole)
				low, _ := c.Load(at, 4)
				high, _ := c.Load(at+4, 4)
				if low != whole&0xFFFFFFFF || high != whole>>32 {
					t.Fatalf("%#x: halves %#x and %#x of %#x", at, high, low, whole)
				}
				c.Store(at, 4, half)
				if v, _ := c.Load(at, 8); v != whole>>32<<32|half&0xFFFFFFFF {
					t.Fatalf("%#x: %#x with the lower half %#x: %#x", at, whole, half, v)
				}
				c.Store(at, 8, whole)
				c.Store(at+4, 4, half)
				if v, _ := c.Load(at, 8); v != half<<32|whole&0xFFFFFFFF {
					t.Fatalf("%#x: %#x with the upper half %#x: %#x", at, whole, half, v)
				}
			}
		}
	}
}

// P13.2: the time that is stored is the time that Time tells and that goes on; a lower half goes over into the upper one.
func TestTimeStored(t *testing.T) {
	m := busy(t)
	m.store(0xBFF8, 8, 1<<35+9)
	m.tick(1)
	if m.c.Time() != 1<<35+10 {
		t.Errorf("%#x", m.c.Time())
	}
	m.store(0xBFF8, 4, 0xFFFFFFFF)
	m.store(0xBFFC, 4, 5)
	m.tick(1)
	if m.c.Time() != 6<<32 {
		t.Errorf("%#x", m.c.Time())
	}
	if v, ok := m.c.Load(0xBFFC, 4); v != 6 || !ok {
		t.Errorf("%#x, %v", v, ok)
	}
	m.whole()
}

// P13.2: all places about the registers, and numbers below 0, by each size that registers have, and by those beside them.
func TestPlaces(t *testing.T) {
	m := busy(t)
	for off := -0x11000; off < 0x22000; off++ {
		for _, size := range []int{4, 8, 0, 1, 2, 16, -4, -8} {
			m.load(off, size)
			m.store(off, size, uint64(off)*0x9E3779B97F4A7C15)
			m.load(off, size)
		}
		if off%256 == 0 || off < 0x40 && off > -0x40 || off&^0x3F == 0x4000 || off&^0x3F == 0xBFC0 {
			m.whole()
		}
	}
	m.whole()
}

// P13.2: places that are far off, and such as are a register's in their lowest bits, read nothing and lay nothing.
func TestPlacesFar(t *testing.T) {
	m := busy(t)
	for _, off := range far() {
		for _, size := range []int{4, 8} {
			m.load(off, size)
			m.store(off, size, 0xFFFFFFFFFFFFFFFF)
		}
		m.whole()
	}
}

// P13.2: other sizes read nothing and lay nothing.
func TestSizes(t *testing.T) {
	m := busy(t)
	for _, size := range noSizes() {
		for _, r := range registers() {
			for off := r.off - 9; off <= r.off+9; off++ {
				m.load(off, size)
				m.store(off, size, 0xFFFFFFFFFFFFFFFF)
			}
			m.load(r.off-size, size)
			m.store(r.off-size, size, 0xFFFFFFFFFFFFFFFF)
		}
		m.whole()
	}
}

// P13.2: a size that stands at another place only: the bell has no 8 bytes, and no upper half.
func TestWrongSizes(t *testing.T) {
	m := busy(t)
	for _, x := range []place{{0, 8}, {4, 4}, {4, 8}, {0x4004, 8}, {0x4008, 4}, {0x4008, 8}, {0x3FFC, 4}, {0x3FFC, 8}, {0x3FF8, 8}, {0xBFFC, 8}, {0xC000, 4}, {0xC000, 8}, {0xBFF4, 4}, {0xBFF4, 8}, {0xBFF0, 8}} {
		if v, ok := m.c.Load(x.off, x.size); v != 0 || ok {
			t.Errorf("Load(%#x, %d): %#x, %v", x.off, x.size, v, ok)
		}
		if m.c.Store(x.off, x.size, 0) || m.c.Store(x.off, x.size, 0xFFFFFFFFFFFFFFFF) {
			t.Errorf("Store(%#x, %d): true", x.off, x.size)
		}
		m.whole()
	}
}

// P13.2: how many registers there are.
func TestHowMany(t *testing.T) {
	reads, writes := 0, 0
	c := clint.New()
	for off := -0x2000; off < 0x20000; off++ {
		for size := -2; size <= 17; size++ {
			if _, ok := c.Load(off, size); ok {
				reads++
			}
			if c.Store(off, size, 0) {
				writes++
			}
		}
	}
	if reads != 7 || writes != 7 {
		t.Errorf("%d that are read, %d that are written", reads, writes)
	}
}

// P13.3: between two stores the time never goes back but over 2^64, and Timer, once it is so, stays so until then.
func TestNeverBack(t *testing.T) {
	for i := range uint64(2000) {
		c := clint.New()
		time := mix(i) >> (i % 64)
		c.Store(0xBFF8, 8, time)
		c.Store(0x4000, 8, mix(i+5000)>>(i%60))
		was := c.Timer()
		for j := range uint64(50) {
			n := int(mix(i<<8+j)) >> (mix(i<<8+j+7000) % 63)
			c.Tick(n)
			over := n > 0 && time > math.MaxUint64-uint64(n)
			switch now := c.Time(); {
			case over && now >= time:
				t.Errorf("%#x did not go over by %#x: %#x", time, n, now)
			case !over && now < time:
				t.Errorf("%#x went back by %#x: %#x", time, n, now)
			case !over && was && !c.Timer():
				t.Errorf("Timer was so at %#x, and is not at %#x", time, now)
			}
			time, was = c.Time(), c.Timer()
		}
	}
}

// P13.3: what was asked turns nothing.
func TestAsked(t *testing.T) {
	m := busy(t)
	for range 3 {
		for off := range 0xC010 {
			for _, size := range []int{1, 2, 4, 8} {
				m.c.Load(off, size)
			}
		}
		m.c.Time()
		m.c.Timer()
		m.c.Soft()
		m.whole()
	}
}

// P13.1 to P13.3: calls in any order.
func TestAnyOrder(t *testing.T) {
	for round := range uint64(40) {
		m := newPair(t)
		for i := range uint64(1500) {
			m.step(round<<32 + i*4)
			m.whole()
		}
	}
}

// step does one thing or another, as the number says.
func (m pair) step(i uint64) {
	m.t.Helper()
	v := mix(i+1) >> (mix(i+2) % 64)
	r := registers()[mix(i+3)%7]
	switch mix(i) % 8 {
	case 0, 1:
		m.tick(int(mix(i+1)) >> (mix(i+2) % 63))
	case 2:
		m.tick(int(v % 16))
	case 3, 4:
		m.store(r.off, r.size, v)
	case 5:
		m.store(0x4000, 8, m.p.time.Uint64()+v%5)
	case 6:
		m.store(0xBFF8, 8, -v)
	case 7:
		m.store(r.off+int(v%9)-4, r.size, v)
	}
}

// P13.1, P13.2: the chapter's examples.
func TestExamples(t *testing.T) {
	c := clint.New()
	store := func(off, size int, v uint64, want bool) {
		t.Helper()
		if got := c.Store(off, size, v); got != want {
			t.Errorf("Store %#x: %v", off, got)
		}
	}
	load := func(off, size int, want uint64, wantOk bool) {
		t.Helper()
		if v, ok := c.Load(off, size); v != want || ok != wantOk {
			t.Errorf("Load %#x: %d, %v", off, v, ok)
		}
	}
	timer := func(want bool) {
		t.Helper()
		if c.Timer() != want {
			t.Errorf("Timer: %v", !want)
		}
	}
	timer(false)
	store(0x4000, 8, 10, true)
	c.Tick(9)
	timer(false)
	c.Tick(1)
	timer(true)
	store(0x4004, 4, 1, true)
	load(0x4000, 8, 4294967306, true)
	timer(false)
	store(0, 4, 3, true)
	if !c.Soft() {
		t.Error("Soft: false")
	}
	load(0, 4, 1, true)
	load(0, 8, 0, false)
	load(4, 4, 0, false)
}
