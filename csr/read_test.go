package csr_test

import (
	"math"
	"testing"
)

// P16.2: every register of processors of all sorts, at some times, with some lines.
func TestRead(t *testing.T) {
	for i, h := range harts() {
		for _, no := range registers() {
			for j := range uint64(6) {
				read(t, h, no, mix(uint64(i)+j), mix(uint64(i)-j))
			}
		}
	}
}

// P16.2: every register, where of each number of the processor one bit is set, or all but one, or none, or all.
func TestReadBits(t *testing.T) {
	for _, v := range numbers() {
		h := fresh()
		for _, at := range words(h) {
			*at = v
		}
		for _, at := range caps(h) {
			at.Addr = v
		}
		for _, no := range registers() {
			read(t, h, no, v, v)
			read(t, h, no, ^v, 0)
			read(t, h, no, 0, ^v)
		}
	}
}

// P16.2: a register reads one number of the processor alone, or two: what stands in the others changes nothing.
func TestReadAlone(t *testing.T) {
	n := len(words(fresh()))
	for i := range n {
		for _, base := range []uint64{0, math.MaxUint64} {
			h := fresh()
			for j, at := range words(h) {
				*at = base
				if i == j {
					*at = ^base
				}
			}
			for _, no := range named() {
				read(t, h, no, 0, 0)
				read(t, h, no, 0x123456789, base)
			}
		}
	}
}

// P16.2: the addresses of each capability that is read, and of no other one, with a tag and without, sealed and not.
func TestReadCaps(t *testing.T) {
	for _, at := range numbers() {
		h := fresh()
		for i, c := range caps(h) {
			c.Addr = uint64(i) + 1000
		}
		h.Stcc.Addr, h.Sepcc.Addr, h.Mtcc.Addr, h.Mepcc.Addr = at, at+1, at+2, at+3
		for i, no := range []int{0x105, 0x141, 0x305, 0x341} {
			if got := read(t, h, no, 7, 7); got != at+uint64(i) {
				t.Errorf("Read(%#x): %#x; want %#x", no, got, at+uint64(i))
			}
		}
	}
	for _, c := range sorts(0x1237) {
		h := fresh()
		h.Stcc, h.Sepcc, h.Mtcc, h.Mepcc = c, c, c, c
		for _, no := range []int{0x105, 0x141, 0x305, 0x341} {
			if got := read(t, h, no, 0, 0); got != 0x1237 {
				t.Errorf("Read(%#x) of %+v: %#x", no, c, got)
			}
		}
	}
}

// P16.2: the lines stand in 344 with what Mip has, and in 144 as far as they are passed on; in nothing else.
func TestReadLines(t *testing.T) {
	for _, lines := range numbers() {
		for _, own := range []uint64{0, 0x222, 2, 0x20, 0x200, 0xAAA, math.MaxUint64} {
			for _, passed := range []uint64{0, 0x222, 2, 0x20, 0x200, math.MaxUint64} {
				h := fresh()
				h.Mip, h.Mideleg = own, passed
				all := own&0x222 | lines&0xAAA
				if got := read(t, h, 0x344, 9, lines); got != all {
					t.Errorf("344 of %#x, lines %#x: %#x", own, lines, got)
				}
				if got := read(t, h, 0x144, 9, lines); got != all&passed&0x222 {
					t.Errorf("144 of %#x, lines %#x, Mideleg %#x: %#x", own, lines, passed, got)
				}
			}
		}
		h := busy(4)
		for _, no := range registers() {
			if no != 0x344 && no != 0x144 && read(t, h, no, 9, lines) != read(t, h, no, 9, 0) {
				t.Errorf("lines stand in %#x", no)
			}
		}
	}
}

// P16.2: what is passed on, by each bit of Mideleg.
func TestReadPassed(t *testing.T) {
	for bit := range 64 {
		h := full()
		h.Mideleg = 1 << bit
		want := uint64(0)
		if bit == 1 || bit == 5 || bit == 9 {
			want = 1 << bit
		}
		if got := read(t, h, 0x104, 0, 0); got != want {
			t.Errorf("104, Mideleg's bit %d: %#x", bit, got)
		}
		if got := read(t, h, 0x144, 0, math.MaxUint64); got != want {
			t.Errorf("144, Mideleg's bit %d: %#x", bit, got)
		}
	}
}

// P16.2: the time is C01's, whatever it is, and no other register's; what is counted stands at two numbers.
func TestReadTime(t *testing.T) {
	h := busy(5)
	h.Cycle, h.Instret = 1111, 2222
	for _, now := range numbers() {
		if got := read(t, h, 0xC01, now, 0); got != now {
			t.Errorf("C01 at %#x: %#x", now, got)
		}
		for _, no := range registers() {
			if no != 0xC01 && read(t, h, no, now, 0) != read(t, h, no, ^now, 0) {
				t.Errorf("the time stands in %#x", no)
			}
		}
	}
	for _, x := range []struct {
		no   int
		want uint64
	}{{0xB00, 1111}, {0xC00, 1111}, {0xB02, 2222}, {0xC02, 2222}} {
		if got := read(t, h, x.no, 3333, 0); got != x.want {
			t.Errorf("%#x: %d", x.no, got)
		}
	}
}
