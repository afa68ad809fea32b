package serial_test

import (
	"testing"

	"ravelin/api"
	"ravelin/serial"
)

// newPower is a switch that is on.
func newPower(t *testing.T) *serial.Power {
	t.Helper()
	p := serial.NewPower()
	if p == nil {
		t.Fatal("NewPower: none")
	}
	if p.Off() {
		t.Fatal("off at first")
	}
	return p
}

// newOff is a switch that was turned off.
func newOff(t *testing.T) *serial.Power {
	t.Helper()
	p := newPower(t)
	if !p.Store(0, 4, api.PowerOff) || !p.Off() {
		t.Fatal("not to be turned off")
	}
	return p
}

// offs is numbers that turn it off: PowerOff in their lowest 32 bits.
func offs() []uint64 {
	list := []uint64{0x5555, 0xFFFFFFFF_00005555, 0x5555_00005555, 0x55555555_00005555}
	for shift := 32; shift < 64; shift++ {
		list = append(list, 0x5555|1<<shift, 0x5555|mix(uint64(shift))<<32)
	}
	return list
}

// noOffs is numbers that do not: all about it, it with a bit turned, at other places, or behind nothing.
func noOffs() []uint64 {
	list := []uint64{0x15555, 0x55555555, 0x5555_0000, 0x5555_0000_0000, 0x5555_0000_0000_0000, 0xAAAA, 0xFFFFAAAA, 0xFFFF5555, 0x55, 0x5500, 0x555, 0x3333, 5555, 0x5555_5554}
	for i := range uint64(40) {
		list = append(list, 0x5554-i, 0x5556+i)
	}
	for bit := range 32 {
		list = append(list, 0x5555^1<<bit, (0x5555^1<<bit)|0x5555<<32, 0x5555<<(bit+1))
	}
	return append(list, 0, 1, 1<<32, 1<<64-1, 1<<63)
}

// P14.4: it is on at first, and as often as it is asked; its register tells 0, on and off.
func TestPower(t *testing.T) {
	for _, p := range []*serial.Power{newPower(t), newOff(t)} {
		was := p.Off()
		for range 3 {
			if v, ok := p.Load(0, 4); v != 0 || !ok || p.Off() != was {
				t.Errorf("Load: %d, %v; Off: %v", v, ok, p.Off())
			}
		}
	}
}

// P14.4: numbers with PowerOff in their lowest 32 bits turn it off.
func TestPowerOff(t *testing.T) {
	for _, v := range offs() {
		p := newPower(t)
		if !p.Store(0, 4, v) || !p.Off() {
			t.Errorf("%#x does not turn it off", v)
		}
	}
}

// P14.4: other numbers don't, alone or one behind another; it can be turned off behind them all.
func TestPowerOn(t *testing.T) {
	p := newPower(t)
	for _, v := range noOffs() {
		if !p.Store(0, 4, v) || p.Off() {
			t.Fatalf("Store of %#x: Off: %v", v, p.Off())
		}
	}
	for v := range uint64(1 << 17) {
		if !p.Store(0, 4, v) || p.Off() != (v >= api.PowerOff) {
			t.Fatalf("Store of all to %#x: Off: %v", v, p.Off())
		}
	}
}

// P14.4: nothing turns it on again.
func TestPowerStays(t *testing.T) {
	p := newOff(t)
	for _, v := range append(noOffs(), offs()...) {
		if !p.Store(0, 4, v) || !p.Off() {
			t.Fatalf("Store of %#x: Off: %v", v, p.Off())
		}
		p.Store(0, 8, v)
		p.Store(4, 4, v)
		p.Load(0, 4)
		p.Load(0, 8)
		if !p.Off() {
			t.Fatalf("on again by %#x", v)
		}
	}
}

// P14.4: other places and sizes are no register, and turn nothing.
func TestPowerPlaces(t *testing.T) {
	on, off := newPower(t), newOff(t)
	none := func(at, size int) {
		t.Helper()
		for _, p := range []*serial.Power{on, off} {
			if v, ok := p.Load(at, size); v != 0 || ok {
				t.Errorf("Load(%#x, %#x): %d, %v", at, size, v, ok)
			}
			if p.Store(at, size, api.PowerOff) || p.Store(at, size, 0) {
				t.Errorf("Store(%#x, %#x): true", at, size)
			}
		}
		if on.Off() || !off.Off() {
			t.Fatalf("turned by (%#x, %#x)", at, size)
		}
	}
	for at := -100; at < 5000; at++ {
		for size := -5; size < 18; size++ {
			if at != 0 || size != 4 {
				none(at, size)
			}
		}
	}
	for _, size := range noSizes(4) {
		none(0, size)
		none(4, size)
		none(-size, size)
	}
	for _, at := range far() {
		none(at, 4)
		none(at, 8)
	}
}

// P14.4: switches share nothing.
func TestPowerApart(t *testing.T) {
	one := newPower(t)
	newOff(t)
	if one.Off() {
		t.Error("turned off by another one")
	}
	other := newPower(t)
	one.Store(0, 4, api.PowerOff)
	if !one.Off() || other.Off() {
		t.Errorf("%v, %v", one.Off(), other.Off())
	}
}

// P14.4: the chapter's example of the switch.
func TestPowerExample(t *testing.T) {
	p := newPower(t)
	if !p.Store(0, 4, 0x5555) || !p.Off() {
		t.Errorf("Off: %v", p.Off())
	}
}
