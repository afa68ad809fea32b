package clint_test

import (
	"math"
	"math/big"
	"testing"

	"ravelin/clint"
)

// plain is what the document says of a clint, with true numbers.
type plain struct {
	time, alarm *big.Int
	bell        bool
}

// newPlain is one that is as it is at first.
func newPlain() *plain {
	return &plain{time: big.NewInt(0), alarm: new(big.Int).Sub(power(64), big.NewInt(1))}
}

// power is 2 to the n.
func power(n uint) *big.Int { return new(big.Int).Lsh(big.NewInt(1), n) }

// rest is what is left of v over all 2 to the n, and never below 0.
func rest(v *big.Int, n uint) *big.Int { return new(big.Int).Mod(v, power(n)) }

// number is a true number that is not below 0.
func number(v uint64) *big.Int { return new(big.Int).SetUint64(v) }

// tick is what Tick does.
func (p *plain) tick(n int) {
	if n > 0 {
		p.time = rest(new(big.Int).Add(p.time, big.NewInt(int64(n))), 64)
	}
}

// timer is what Timer answers.
func (p *plain) timer() bool { return p.time.Cmp(p.alarm) >= 0 }

// upper is a number's upper half, lower its lower one.
func upper(v *big.Int) *big.Int { return new(big.Int).Div(v, power(32)) }
func lower(v *big.Int) *big.Int { return rest(v, 32) }

// join is the number of two halves.
func join(high, low *big.Int) *big.Int {
	return new(big.Int).Add(new(big.Int).Mul(high, power(32)), low)
}

// load is what Load answers.
func (p *plain) load(off, size int) (uint64, bool) {
	var v *big.Int
	switch {
	case off == 0 && size == 4 && p.bell:
		v = big.NewInt(1)
	case off == 0 && size == 4:
		v = big.NewInt(0)
	case off == 0x4000 && size == 8:
		v = p.alarm
	case off == 0x4000 && size == 4:
		v = lower(p.alarm)
	case off == 0x4004 && size == 4:
		v = upper(p.alarm)
	case off == 0xBFF8 && size == 8:
		v = p.time
	case off == 0xBFF8 && size == 4:
		v = lower(p.time)
	case off == 0xBFFC && size == 4:
		v = upper(p.time)
	default:
		return 0, false
	}
	return v.Uint64(), true
}

// store is what Store does, and answers.
func (p *plain) store(off, size int, v uint64) bool {
	long, short := number(v), rest(number(v), 32)
	switch {
	case off == 0 && size == 4:
		p.bell = v%2 == 1
	case off == 0x4000 && size == 8:
		p.alarm = long
	case off == 0x4000 && size == 4:
		p.alarm = join(upper(p.alarm), short)
	case off == 0x4004 && size == 4:
		p.alarm = join(short, lower(p.alarm))
	case off == 0xBFF8 && size == 8:
		p.time = long
	case off == 0xBFF8 && size == 4:
		p.time = join(upper(p.time), short)
	case off == 0xBFFC && size == 4:
		p.time = join(short, lower(p.time))
	default:
		return false
	}
	return true
}

// place is where a register stands, and how many bytes it has.
type place struct{ off, size int }

// registers is where there are some.
func registers() []place {
	return []place{{0, 4}, {0x4000, 8}, {0x4000, 4}, {0x4004, 4}, {0xBFF8, 8}, {0xBFF8, 4}, {0xBFFC, 4}}
}

// pair is a clint, and a plain one to which the same is done.
type pair struct {
	t *testing.T
	c *clint.Clint
	p *plain
}

// newPair is two that are as they are at first.
func newPair(t *testing.T) pair {
	t.Helper()
	c := clint.New()
	if c == nil {
		t.Fatal("New: none")
	}
	return pair{t, c, newPlain()}
}

// busy is two of which no two registers have the same, and none has noughts alone.
func busy(t *testing.T) pair {
	t.Helper()
	m := newPair(t)
	m.store(0, 4, 1)
	m.store(0x4000, 8, 0x123456789ABCDEF0)
	m.store(0xBFF8, 8, 0x0FEDCBA987654321)
	m.whole()
	return m
}

// set is two with a time and an alarm.
func set(t *testing.T, time, alarm uint64) pair {
	t.Helper()
	m := newPair(t)
	m.store(0xBFF8, 8, time)
	m.store(0x4000, 8, alarm)
	m.whole()
	return m
}

// tick lets time go on for both.
func (m pair) tick(n int) {
	m.c.Tick(n)
	m.p.tick(n)
}

// load loads from both.
func (m pair) load(off, size int) {
	m.t.Helper()
	want, wantOk := m.p.load(off, size)
	if got, ok := m.c.Load(off, size); got != want || ok != wantOk {
		m.t.Errorf("Load(%#x, %d): %#x, %v; want %#x, %v", off, size, got, ok, want, wantOk)
	}
}

// store stores to both.
func (m pair) store(off, size int, v uint64) {
	m.t.Helper()
	want := m.p.store(off, size, v)
	if got := m.c.Store(off, size, v); got != want {
		m.t.Errorf("Store(%#x, %d, %#x): %v; want %v", off, size, v, got, want)
	}
}

// whole holds all against each other that can be asked.
func (m pair) whole() {
	m.t.Helper()
	for _, r := range registers() {
		m.load(r.off, r.size)
	}
	if got, want := m.c.Time(), m.p.time.Uint64(); got != want {
		m.t.Errorf("Time: %#x; want %#x", got, want)
	}
	if got, want := m.c.Timer(), m.p.timer(); got != want {
		m.t.Errorf("Timer: %v; want %v; the time %#x, the alarm %#x", got, want, m.p.time, m.p.alarm)
	}
	if got := m.c.Soft(); got != m.p.bell {
		m.t.Errorf("Soft: %v; want %v", got, m.p.bell)
	}
	if m.t.Failed() {
		m.t.FailNow()
	}
}

// ends is numbers at the ends of halves and of wholes.
func ends() []uint64 {
	var list []uint64
	for _, end := range []uint64{0, 1 << 31, 1 << 32, 1 << 33, 1 << 63} {
		for i := range uint64(5) {
			list = append(list, end+i-2)
		}
	}
	return list
}

// numbers is what is stored: the ends, each bit alone, all but it, and some that look like chance.
func numbers() []uint64 {
	list := ends()
	for i := range 64 {
		list = append(list, 1<<i, ^(uint64(1) << i), mix(uint64(i)))
	}
	return list
}

// steps is by how many the time is let go on: none, few, many, and numbers below 0.
func steps() []int {
	list := []int{0, 1, 2, 3, 9, 1<<20 - 1, 1 << 20, 1<<20 + 1, -1, -2, -100, -1 << 20}
	for shift := 30; shift < 63; shift++ {
		list = append(list, 1<<shift-1, 1<<shift, 1<<shift+1, -1<<shift-1, -1<<shift, -1<<shift+1)
	}
	return append(list, math.MaxInt-1, math.MaxInt, math.MinInt, math.MinInt+1)
}

// far is numbers that are out of all bounds, and such as turn into small ones where something is added, multiplied or cut off.
func far() []int {
	list := []int{1<<31 - 1, -1 << 31, 1<<32 - 1, -1 << 32, 1 << 48, 1 << 60, -1 << 62}
	for i := range 20 {
		list = append(list, math.MaxInt-i, math.MinInt+i)
	}
	for shift := 16; shift < 64; shift++ {
		for _, r := range registers() {
			list = append(list, 1<<shift+r.off, -1<<shift+r.off, 1<<shift-r.off)
		}
	}
	return list
}

// noSizes is numbers that no register has as its size, and such as are one in their lowest bits.
func noSizes() []int {
	list := far()
	for size := -20; size <= 80; size++ {
		if size != 4 && size != 8 {
			list = append(list, size)
		}
	}
	for shift := 4; shift < 64; shift++ {
		list = append(list, 1<<shift+4, 1<<shift+8, -1<<shift+4, -1<<shift+8)
	}
	return list
}

// mix is a number that looks like chance, and is the same for the same one.
func mix(v uint64) uint64 {
	z := (v + 1) * 0x9E3779B97F4A7C15
	z = (z ^ z>>30) * 0xBF58476D1CE4E5B9
	z = (z ^ z>>27) * 0x94D049BB133111EB
	return z ^ z>>31
}
