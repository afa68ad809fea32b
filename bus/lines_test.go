package bus_test

import (
	"testing"
)

// ways is how the four lines can stand: a bit for each, from that of the least number on.
const ways = 16

// stand makes the lines stand in that way, by registers, and is what they are then.
func (m pair) stand(way int) uint64 {
	m.t.Helper()
	sum := uint64(0)
	alarm, bell, super, mach := uint64(1<<64-1), uint64(0), uint64(0), uint64(0)
	if way&1 != 0 {
		bell, sum = 1, sum+8
	}
	if way&2 != 0 {
		alarm, sum = 100, sum+128
	}
	if way&4 != 0 {
		super, sum = 1<<9, sum+512
	}
	if way&8 != 0 {
		mach, sum = 1<<9, sum+2048
	}
	m.store(0x02000000, 4, bell)
	m.store(0x02004000, 8, alarm)
	m.store(0x0C002080, 4, super)
	m.store(0x0C002000, 4, mach)
	return sum
}

// P15.4: each way in which the four can stand, one behind each other.
func TestLines(t *testing.T) {
	m := newPair(t, 4096)
	m.b.Clint.Tick(100)
	m.p.clint.Tick(100)
	m.b.Plic.Lines(1 << 9)
	m.p.plic.Lines(1 << 9)
	m.store(0x0C000024, 4, 1)
	for from := range ways {
		for to := range ways {
			m.stand(from)
			want := m.stand(to)
			for range 2 {
				if got := m.b.Lines(); got != want {
					t.Errorf("Lines in the way %d: %d; want %d", to, got, want)
				}
			}
			m.whole()
		}
	}
}

// P15.4: each line alone, as it comes and goes.
func TestLineComesAndGoes(t *testing.T) {
	b := newPair(t, 4096).b
	want := func(want uint64) {
		t.Helper()
		if got := b.Lines(); got != want {
			t.Errorf("Lines: %d; want %d", got, want)
		}
	}
	want(0)
	b.Store(0x02004000, 8, 10)
	b.Clint.Tick(9)
	want(0)
	b.Clint.Tick(1)
	want(128)
	b.Store(0x0200BFF8, 8, 3)
	want(0)
	b.Store(0x02000000, 4, 3)
	want(8)
	b.Store(0x02000000, 4, 2)
	want(0)
	b.Store(0x0C000014, 4, 4)
	b.Store(0x0C002000, 4, 1<<5)
	want(0)
	b.Plic.Lines(1 << 5)
	want(2048)
	b.Store(0x0C200000, 4, 4)
	want(0)
	b.Store(0x0C002080, 4, 1<<5)
	want(512)
	b.Store(0x0C200000, 4, 3)
	want(2048 + 512)
	if v, ok := b.Load(0x0C201004, 4); v != 5 || !ok {
		t.Errorf("the claim: %d, %v", v, ok)
	}
	want(0)
	b.Store(0x0C201004, 4, 5)
	want(0)
	b.Plic.Lines(1 << 5)
	want(2048 + 512)
	b.Plic.Lines(0)
	want(0)
}

// P15.4: nothing else makes a line: neither bytes that come, nor the switch, nor memory.
func TestNoLine(t *testing.T) {
	b := newPair(t, 4096).b
	for at := uint64(0x80000000); at < 0x80001000; at += 8 {
		b.Store(at, 8, 1<<64-1)
	}
	b.Store(0x10000001, 1, 1)
	b.Uart.Input(7)
	b.Store(0x10000000, 1, 7)
	b.Store(0x00100000, 4, 0x5555)
	b.Clint.Tick(1 << 40)
	b.Plic.Lines(1<<32 - 1)
	if got := b.Lines(); got != 0 {
		t.Errorf("Lines: %d", got)
	}
}
