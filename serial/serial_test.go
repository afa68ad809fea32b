package serial_test

import (
	"testing"

	"ravelin/api"
	"ravelin/serial"
)

// P14.1: at first nothing came, nothing was told, and it is not enabled.
func TestNew(t *testing.T) {
	u := serial.New()
	if u.Waits() != 0 || u.Output() != -1 || u.Output() != -1 {
		t.Error("something came, or was told")
	}
	for off, want := range []uint64{0, 0, 0, 0, 0, 96, 0, 0} {
		if v, ok := u.Load(off, 1); v != want || !ok {
			t.Errorf("Load(%d, 1): %d, %v; want %d", off, v, ok, want)
		}
	}
	newPair(t).drain()
}

// P14.1: UARTs share nothing.
func TestApart(t *testing.T) {
	one, other := busy(t), newPair(t)
	other.whole()
	one.store(0, 1, 3)
	other.output()
	other.input(77)
	one.whole()
	other.store(1, 1, 1)
	other.store(1, 1, 0)
	one.drain()
	other.drain()
	newPair(t).drain()
}

// P14.1, P14.5: bytes are kept until MaxInput of them are; those that come then are lost, and nothing else is.
func TestInput(t *testing.T) {
	u := serial.New()
	for i := range api.MaxInput {
		if u.Waits() != i {
			t.Errorf("Waits behind %d bytes: %d", i, u.Waits())
		}
		if !u.Input(byte(100 + i)) {
			t.Errorf("the byte %d is lost", i)
		}
	}
	for i := range 40 {
		if u.Input(byte(i)) || u.Waits() != api.MaxInput {
			t.Errorf("one more is kept; Waits: %d", u.Waits())
		}
	}
	for i := range api.MaxInput {
		if v, ok := u.Load(0, 1); v != uint64(100+i) || !ok {
			t.Errorf("the byte %d: %d, %v", i, v, ok)
		}
	}
	if v, ok := u.Load(0, 1); v != 0 || !ok || u.Waits() != 0 {
		t.Errorf("one more: %d, %v; Waits: %d", v, ok, u.Waits())
	}
}

// P14.1: as soon as one byte of all was read, one more is kept, and only one.
func TestInputAgain(t *testing.T) {
	m := newPair(t)
	for i := range api.MaxInput {
		m.input(byte(i))
	}
	for i := range 100 {
		m.input(0xFF)
		m.load(0, 1)
		if m.u.Waits() != api.MaxInput-1 {
			t.Fatalf("Waits: %d", m.u.Waits())
		}
		m.input(byte(50 + i))
		m.input(0xFE)
		m.whole()
	}
	m.drain()
}

// P14.1, P14.2: each byte that can be is kept as it is, a nought too, which counts as one.
func TestBytes(t *testing.T) {
	u := serial.New()
	for b := range 256 {
		if !u.Input(byte(b)) || u.Waits() != 1 {
			t.Errorf("Input(%d): Waits %d", b, u.Waits())
		}
		if v, ok := u.Load(5, 1); v != 97 || !ok {
			t.Errorf("Load 5 behind %d: %d, %v", b, v, ok)
		}
		if v, ok := u.Load(0, 1); v != uint64(b) || !ok || u.Waits() != 0 {
			t.Errorf("Load 0 behind %d: %d, %v; Waits %d", b, v, ok, u.Waits())
		}
	}
}

// P14.1: what was told is answered once, and then no more, until something is told again.
func TestOutput(t *testing.T) {
	u := serial.New()
	for b := range 256 {
		if !u.Store(0, 1, uint64(b)) {
			t.Errorf("Store of %d: false", b)
		}
		for _, want := range []int{b, -1, -1} {
			if got := u.Output(); got != want {
				t.Errorf("Output: %d; want %d", got, want)
			}
		}
	}
}

// P14.1: of several that were told since, the last one is answered, and those before it never.
func TestOutputLast(t *testing.T) {
	for n := 1; n < 40; n++ {
		u := serial.New()
		for i := range n {
			u.Store(0, 1, mix(uint64(i*n)))
		}
		if got, want := u.Output(), int(mix(uint64((n-1)*n))%256); got != want {
			t.Errorf("the last one of %d: %d; want %d", n, got, want)
		}
		if got := u.Output(); got != -1 {
			t.Errorf("again behind %d: %d", n, got)
		}
	}
}

// P14.1, P14.3: what comes is not told, and what is told does not come.
func TestInAndOut(t *testing.T) {
	m := busy(t)
	m.output()
	for i := range 20 {
		m.input(byte(i))
		m.output()
	}
	for i := range uint64(5) {
		m.store(0, 1, 200+i)
		m.whole()
	}
	m.drain()
}

// P14.2: while none is kept, 0 is read, as often as it is, and it changes nothing.
func TestReadNone(t *testing.T) {
	m := newPair(t)
	for n := range api.MaxInput + 1 {
		for range 2*api.MaxInput + 1 {
			if v, ok := m.u.Load(0, 1); v != 0 || !ok || m.u.Waits() != 0 {
				t.Fatalf("%d, %v; Waits: %d", v, ok, m.u.Waits())
			}
		}
		for i := range n {
			m.input(byte(0x81 + i))
		}
		m.drain()
	}
}

// P14.2: of 5: whether a byte is kept, for each number of them; that it is asked takes none.
func TestStatus(t *testing.T) {
	u := serial.New()
	check := func(kept int, want uint64) {
		t.Helper()
		for range 3 {
			if v, ok := u.Load(5, 1); v != want || !ok || u.Waits() != kept {
				t.Errorf("with %d kept: %d, %v; Waits: %d", kept, v, ok, u.Waits())
			}
		}
	}
	check(0, 96)
	for i := range api.MaxInput {
		u.Input(0)
		check(i+1, 97)
	}
	for i := api.MaxInput; i > 1; i-- {
		u.Load(0, 1)
		check(i-1, 97)
	}
	u.Load(0, 1)
	check(0, 96)
	u.Store(0, 1, 1)
	u.Store(1, 1, 1)
	u.Store(5, 1, 255)
	check(0, 96)
}

// P14.2, P14.3: it is enabled by the lowest bit alone, whether it was before or not.
func TestEnabled(t *testing.T) {
	m := busy(t)
	for _, v := range append(numbers(), 2, 3, 4, 5, 6, 7) {
		for _, before := range []uint64{0, 1} {
			m.store(1, 1, before)
			m.store(1, 1, v)
			if got, ok := m.u.Load(1, 1); got != v&1 || !ok {
				t.Errorf("%#x over %d: %d, %v", v, before, got, ok)
			}
			m.whole()
		}
	}
	m.drain()
}

// P14.3: of what is stored in 0 the lowest byte alone is told.
func TestTold(t *testing.T) {
	u := serial.New()
	for _, v := range numbers() {
		if !u.Store(0, 1, v) {
			t.Errorf("Store of %#x: false", v)
		}
		if got := u.Output(); got != int(v%256) {
			t.Errorf("Output behind %#x: %d", v, got)
		}
	}
}

// P14.3: what is stored in the others does nothing, and is not kept.
func TestOthers(t *testing.T) {
	m := busy(t)
	for off := 2; off < 8; off++ {
		for _, v := range numbers() {
			m.store(off, 1, v)
			m.whole()
		}
	}
	m.drain()
	for off := 2; off < 8; off++ {
		m.store(off, 1, 255)
		m.output()
		m.whole()
	}
}

// P14.2, P14.3: all places about the registers, numbers below 0 too, by sizes that others have.
func TestPlaces(t *testing.T) {
	m := busy(t)
	for off := -300; off < 600; off++ {
		for size := -17; size <= 17; size++ {
			if size == 1 && off == 0 {
				continue
			}
			m.load(off, size)
			m.store(off, size, mix(uint64(off)))
			m.store(off, size, 0)
			m.store(off, size, 1)
		}
		m.whole()
	}
	m.drain()
}

// P14.2, P14.3: places that are far off, and such as are a register's in their lowest bits, read nothing and tell nothing.
func TestPlacesFar(t *testing.T) {
	m := busy(t)
	for _, off := range far() {
		if v, ok := m.u.Load(off, 1); v != 0 || ok {
			t.Errorf("Load(%#x, 1): %d, %v", off, v, ok)
		}
		if m.u.Store(off, 1, 0) || m.u.Store(off, 1, 66) {
			t.Errorf("Store(%#x, 1): true", off)
		}
		m.whole()
	}
	m.drain()
}

// P14.2, P14.3: other sizes take no byte, tell none, and enable nothing.
func TestSizes(t *testing.T) {
	m := busy(t)
	for _, size := range noSizes(1) {
		for off := -9; off < 17; off++ {
			if v, ok := m.u.Load(off, size); v != 0 || ok {
				t.Errorf("Load(%d, %#x): %d, %v", off, size, v, ok)
			}
			if m.u.Store(off, size, 0) || m.u.Store(off, size, 67) {
				t.Errorf("Store(%d, %#x): true", off, size)
			}
		}
		m.whole()
	}
	m.drain()
}

// P14.2, P14.3: how many registers there are.
func TestHowMany(t *testing.T) {
	reads, writes := 0, 0
	u := serial.New()
	for off := -2000; off < 2000; off++ {
		for size := -2; size <= 17; size++ {
			if _, ok := u.Load(off, size); ok {
				reads++
			}
			if u.Store(off, size, 0) {
				writes++
			}
		}
	}
	if reads != 8 || writes != 8 {
		t.Errorf("%d that are read, %d that are written", reads, writes)
	}
}

// P14.5: in order, each once, with each number of bytes kept, going round many times.
func TestRound(t *testing.T) {
	for kept := range api.MaxInput + 1 {
		u := serial.New()
		for i := range kept {
			u.Input(byte(i))
		}
		for i := range 1000 {
			if kept < api.MaxInput && !u.Input(byte(i+kept)) {
				t.Fatalf("with %d kept, the byte %d is lost", kept, i)
			}
			if v, ok := u.Load(0, 1); v != uint64(byte(i)) || !ok {
				t.Fatalf("with %d kept, the byte %d: %d, %v", kept, i, v, ok)
			}
			if kept == api.MaxInput && !u.Input(byte(i+kept)) {
				t.Fatalf("with all kept, the byte %d is lost", i)
			}
			if u.Waits() != kept {
				t.Fatalf("Waits: %d; want %d", u.Waits(), kept)
			}
		}
	}
}

// P14.5: from each place of the row on, each number of bytes, by so many at a time.
func TestBursts(t *testing.T) {
	for start := range api.MaxInput {
		for n := range api.MaxInput + 5 {
			m := newPair(t)
			for i := range start {
				m.input(byte(i))
				m.load(0, 1)
			}
			for round := range 5 {
				for i := range n {
					m.input(byte(100*round + i))
				}
				m.whole()
				for range n - round {
					m.load(0, 1)
				}
			}
			m.drain()
		}
	}
}

// P14.1 to P14.5: calls in any order.
func TestAnyOrder(t *testing.T) {
	for round := range uint64(200) {
		m := newPair(t)
		for i := range uint64(1500) {
			m.step(round<<32+i*4, round%5)
			m.whole()
		}
		m.drain()
	}
}

// step does one thing or another, as the number says; the greater the haste, the more bytes come.
func (m pair) step(i, haste uint64) {
	m.t.Helper()
	v := mix(i+1) >> (mix(i+2) % 64)
	switch mix(i) % (8 + haste) {
	case 0:
		m.store(int(v%8), 1, mix(i+3))
	case 1:
		m.load(int(mix(i+3)%12)-2, int(v%3))
	case 2:
		m.store(int(mix(i+3)%12)-2, int(v%3), v)
	case 3:
		m.output()
	case 4, 5, 6:
		m.load(0, 1)
	default:
		m.input(byte(mix(i + 3)))
		m.input(byte(v))
	}
}

// P14.1 to P14.3, P14.5: each order of six calls of a few kinds.
func TestEachOrder(t *testing.T) {
	for order := range 6 * 6 * 6 * 6 * 6 * 6 {
		m := newPair(t)
		for rest, i := order, 0; i < 6; rest, i = rest/6, i+1 {
			switch rest % 6 {
			case 0:
				m.input(byte(200 + i))
			case 1:
				m.load(0, 1)
			case 2:
				m.store(0, 1, uint64(100+i))
			case 3:
				m.output()
			case 4:
				m.store(1, 1, uint64(i))
			case 5:
				m.load(5, 1)
			}
		}
		m.drain()
	}
}

// P14.1, P14.2: the chapter's examples of the UART.
func TestExamples(t *testing.T) {
	u := serial.New()
	if !u.Input(7) || !u.Input(8) {
		t.Error("Input: false")
	}
	for _, x := range []struct {
		off  int
		want uint64
	}{{5, 97}, {0, 7}, {0, 8}, {0, 0}, {5, 96}} {
		if v, ok := u.Load(x.off, 1); v != x.want || !ok {
			t.Errorf("Load %d: %d, %v; want %d", x.off, v, ok, x.want)
		}
	}
	if got := u.Output(); got != -1 {
		t.Errorf("Output: %d", got)
	}
	if !u.Store(0, 1, 41) || !u.Store(0, 1, 42) {
		t.Error("Store: false")
	}
	for _, want := range []int{42, -1} {
		if got := u.Output(); got != want {
			t.Errorf("Output: %d; want %d", got, want)
		}
	}
}
