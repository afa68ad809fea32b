package serial_test

import (
	"math"
	"testing"

	"ravelin/api"
	"ravelin/serial"
)

// plain is what the document says of a UART, with a plain list of the bytes that are kept.
type plain struct {
	kept    []byte
	told    []byte
	enabled bool
}

// input is what Input does, and answers.
func (p *plain) input(b byte) bool {
	if len(p.kept) >= 16 {
		return false
	}
	p.kept = append(p.kept, b)
	return true
}

// output is what Output answers.
func (p *plain) output() int {
	if len(p.told) == 0 {
		return -1
	}
	b := p.told[len(p.told)-1]
	p.told = nil
	return int(b)
}

// load is what Load answers.
func (p *plain) load(off, size int) (uint64, bool) {
	if size != 1 || off < 0 || off > 7 {
		return 0, false
	}
	switch {
	case off == 0 && len(p.kept) > 0:
		b := p.kept[0]
		p.kept = p.kept[1:]
		return uint64(b), true
	case off == 1 && p.enabled:
		return 1, true
	case off == 5 && len(p.kept) > 0:
		return 97, true
	case off == 5:
		return 96, true
	}
	return 0, true
}

// store is what Store does, and answers.
func (p *plain) store(off, size int, v uint64) bool {
	if size != 1 || off < 0 || off > 7 {
		return false
	}
	switch off {
	case 0:
		p.told = append(p.told, byte(v%256))
	case 1:
		p.enabled = v%2 == 1
	}
	return true
}

// pair is a UART, and a plain one to which the same is done.
type pair struct {
	t *testing.T
	u *serial.Uart
	p *plain
}

// newPair is two that are as they are at first.
func newPair(t *testing.T) pair {
	t.Helper()
	u := serial.New()
	if u == nil {
		t.Fatal("New: none")
	}
	return pair{t, u, &plain{}}
}

// busy is two that are enabled, with bytes that came, from the third place of the row on, and one that was told.
func busy(t *testing.T) pair {
	t.Helper()
	m := newPair(t)
	for i := range 9 {
		m.input(byte(0xA1 + i))
	}
	m.load(0, 1)
	m.load(0, 1)
	m.store(1, 1, 1)
	m.store(0, 1, 0xE7)
	m.whole()
	return m
}

// input lets a byte come to both.
func (m pair) input(b byte) {
	m.t.Helper()
	want := m.p.input(b)
	if got := m.u.Input(b); got != want {
		m.t.Fatalf("Input(%d): %v; want %v", b, got, want)
	}
}

// output asks both for what was told.
func (m pair) output() {
	m.t.Helper()
	want := m.p.output()
	if got := m.u.Output(); got != want {
		m.t.Fatalf("Output: %d; want %d", got, want)
	}
}

// load loads from both.
func (m pair) load(off, size int) {
	m.t.Helper()
	want, wantOk := m.p.load(off, size)
	if got, ok := m.u.Load(off, size); got != want || ok != wantOk {
		m.t.Fatalf("Load(%#x, %d): %#x, %v; want %#x, %v", off, size, got, ok, want, wantOk)
	}
}

// store stores to both.
func (m pair) store(off, size int, v uint64) {
	m.t.Helper()
	want := m.p.store(off, size, v)
	if got := m.u.Store(off, size, v); got != want {
		m.t.Fatalf("Store(%#x, %d, %#x): %v; want %v", off, size, v, got, want)
	}
}

// whole holds all against each other that can be asked and does not change by that.
func (m pair) whole() {
	m.t.Helper()
	if got := m.u.Waits(); got != len(m.p.kept) {
		m.t.Fatalf("Waits: %d; want %d", got, len(m.p.kept))
	}
	for off := 1; off < 8; off++ {
		m.load(off, 1)
	}
}

// drain asks for all that is left, and for more.
func (m pair) drain() {
	m.t.Helper()
	m.whole()
	m.output()
	m.output()
	for range api.MaxInput + 3 {
		m.load(0, 1)
		m.whole()
	}
}

// numbers is what is stored: the ends of bytes, halves and wholes, each bit alone, all but it, and some that look like chance.
func numbers() []uint64 {
	var list []uint64
	for _, end := range []uint64{0, 1 << 7, 1 << 8, 1 << 9, 1 << 16, 1 << 31, 1 << 32, 1 << 63} {
		for i := range uint64(5) {
			list = append(list, end+i-2)
		}
	}
	for i := range 64 {
		list = append(list, 1<<i, ^(uint64(1) << i), mix(uint64(i)))
	}
	return list
}

// far is numbers that are out of all bounds, and such as turn into small ones where something is added, multiplied or cut off.
func far() []int {
	list := []int{1<<31 - 1, -1 << 31, 1<<32 - 1, -1 << 32, 1 << 48, 1 << 60, -1 << 62}
	for i := range 20 {
		list = append(list, math.MaxInt-i, math.MinInt+i)
	}
	for shift := 3; shift < 64; shift++ {
		for off := range 8 {
			list = append(list, 1<<shift+off, -1<<shift+off)
		}
	}
	return list
}

// noSizes is numbers that no register has as its size: all about the one that it is, the sizes that others have, and such as are one in their lowest bits.
func noSizes(but int) []int {
	var list []int
	for _, size := range far() {
		if size != but {
			list = append(list, size)
		}
	}
	for size := -40; size <= 80; size++ {
		if size != but {
			list = append(list, size)
		}
	}
	for shift := 8; shift < 64; shift++ {
		list = append(list, 1<<shift+but, -1<<shift+but)
	}
	return list
}

// mix is a number that looks like chance, and is the same for the same one.
func mix(v uint64) uint64 {
	z := (v + 1) * 0x9E3779B97F4A7C15
	z = (z ^ z>>30) * 0xBF58476D1CE4E5B9
	z = (z ^ z>>27) * 0x94D049BB133111EB
	return z ^ z>>31
}
