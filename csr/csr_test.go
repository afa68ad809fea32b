package csr_test

import (
	"math"
	"slices"
	"testing"

	"ravelin/api"
	"ravelin/capenc"
	"ravelin/csr"
)

// beyond is numbers below 0 and above FFF: near by, far off, and such as are a register's in their lowest bits.
func beyond() []int {
	list := []int{math.MinInt, math.MinInt + 1, math.MaxInt - 1, math.MaxInt}
	for no := 1; no <= 0x1000; no++ {
		list = append(list, -no, 0xFFF+no)
	}
	for _, no := range named() {
		for shift := 12; shift < 63; shift++ {
			list = append(list, 1<<shift+no, -1<<shift+no)
		}
		list = append(list, math.MinInt+no, ^no)
	}
	return list
}

// every is all numbers from 0 to FFF, and those beyond.
func every() []int {
	list := beyond()
	for no := range 0x1000 {
		list = append(list, no)
	}
	return list
}

// P16.1, P16.2, P16.3: which numbers are registers, and which of these nobody writes.
func TestNumbers(t *testing.T) {
	from := busy(0)
	for _, no := range every() {
		copied := *from
		h := &copied
		is := isRegister(no)
		v, got := csr.Read(h, no, 5, math.MaxUint64)
		if got != is || !is && v != 0 {
			t.Fatalf("Read(%#x): %#x, %v", no, v, got)
		}
		if trap := csr.May(h, no, false); trap.Is == is {
			t.Fatalf("May(%#x): %+v", no, trap)
		}
		same(t, h, from)
		writes := is && !slices.Contains([]int{0xC00, 0xC01, 0xC02, 0xF11, 0xF12, 0xF13, 0xF14}, no)
		if got := csr.Write(h, no, 6); got != writes {
			t.Fatalf("Write(%#x): %v", no, got)
		}
		if !writes {
			same(t, h, from)
		}
	}
}

// The chapter's examples.
func TestExamples(t *testing.T) {
	h := &api.Hart{Priv: api.Machine}
	if !csr.Write(h, 0x300, math.MaxUint64) {
		t.Error("Write 300")
	}
	if v, ok := csr.Read(h, 0x300, 0, 0); v != 1<<35+1<<33+0x7E19AA || !ok {
		t.Errorf("Read 300: %#x, %v", v, ok)
	}
	if v, ok := csr.Read(h, 0x100, 0, 0); v != 1<<33+0xC0122 || !ok {
		t.Errorf("Read 100: %#x, %v", v, ok)
	}
	if !csr.Write(h, 0x300, 0x1000) {
		t.Error("Write 300 of 1000")
	}
	if v, ok := csr.Read(h, 0x300, 0, 0); v != 1<<35+1<<33 || !ok {
		t.Errorf("Read 300 behind 1000: %#x, %v", v, ok)
	}
	h.Mtcc = capenc.Root(0, 0)
	if !csr.Write(h, 0x305, 0x80000003) {
		t.Error("Write 305")
	}
	if v, ok := csr.Read(h, 0x305, 0, 0); v != 0x80000001 || !ok || h.Mtcc != capenc.Root(0, 0x80000001) {
		t.Errorf("Read 305: %#x, %v; %+v", v, ok, h.Mtcc)
	}
	none := api.Trap{Is: true, Cause: api.EIllegal}
	h.Priv = api.Supervisor
	if got := csr.May(h, 0x300, false); got != none {
		t.Errorf("May of 300: %+v", got)
	}
	for _, priv := range []int{api.User, api.Supervisor, api.Machine} {
		h.Priv = priv
		if a, b := csr.May(h, 0xF11, true), csr.May(h, 0x7FF, false); a != none || b != none {
			t.Errorf("May of F11, to be written, and of 7FF, of %d: %+v, %+v", priv, a, b)
		}
	}
}

// R1: nothing panics, and all ends, whatever the processor's fields are.
func TestWrongHarts(t *testing.T) {
	wrong := []int{math.MinInt, math.MinInt + 52, -65, -64, -53, -1, 2, 4, 53, 63, 64, 1 << 14, 1 << 18, math.MaxInt}
	for _, n := range wrong {
		for _, big := range []bool{false, true} {
			c := api.Cap{Tag: true, Type: api.TypeNone, E: n, B: n, T: n, Perms: n, Mode: n, Big: big, Addr: uint64(n)}
			odd := c
			odd.Type = n
			h := hart(func(i int) uint64 { return mix(uint64(i)) }, func(i int) api.Cap { return []api.Cap{c, odd}[i%2] })
			h.Priv = n
			for _, no := range every() {
				csr.May(h, no, false)
				csr.May(h, no, true)
				csr.Read(h, no, math.MaxUint64, math.MaxUint64)
				csr.Write(h, no, 0)
				csr.Write(h, no, math.MaxUint64)
			}
		}
	}
}
