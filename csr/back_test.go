package csr_test

import (
	"testing"

	"ravelin/api"
)

// masks is the bits that each register has that can be written, of a processor that passes on those interrupts; of the addresses all but what they never have.
func masks(passed uint64) map[int]uint64 {
	const whole = 1<<64 - 1
	return map[int]uint64{
		0x100: 0xC0122, 0x104: passed & 0x222, 0x105: whole - 2, 0x106: 7,
		0x140: whole, 0x141: whole - 1, 0x142: whole, 0x143: whole, 0x144: passed & 2,
		0x300: 0x7E19AA, 0x301: 0, 0x302: 0x1800B3FF, 0x303: 0x222, 0x304: 0xAAA,
		0x305: whole - 2, 0x306: 7, 0x340: whole, 0x341: whole - 1, 0x342: whole, 0x343: whole, 0x344: 0x222,
		0x3A0: 0, 0x3EF: 0, 0xB00: whole, 0xB02: whole,
	}
}

// proper is a processor that may be, whose addresses are such as can be written.
func proper(h *api.Hart) *api.Hart {
	if h.Mstatus>>11&3 == 2 {
		h.Mstatus -= 1 << 12
	}
	h.Stcc.Addr, h.Mtcc.Addr = h.Stcc.Addr&^2, h.Mtcc.Addr&^2
	h.Sepcc.Addr, h.Mepcc.Addr = h.Sepcc.Addr&^1, h.Mepcc.Addr&^1
	return h
}

// P16.4: what reads as something reads as that again, if it is written, and so does every other register.
func TestBack(t *testing.T) {
	for _, from := range harts() {
		for _, no := range registers() {
			h := proper(from)
			v := read(t, h, no, 5, 0)
			then := *h
			write(t, &then, no, v)
			for _, other := range registers() {
				if a, b := read(t, &then, other, 5, 0), read(t, h, other, 5, 0); a != b {
					t.Errorf("%#x, written as it reads (%#x): %#x reads as %#x, not %#x", no, v, other, a, b)
				}
			}
		}
	}
}

// P16.4: what the lines make stays theirs: it is read again behind a write of what was read, and not any more without them, but for what Mip takes of it.
func TestBackLines(t *testing.T) {
	for _, lines := range numbers() {
		h := fresh()
		h.Mideleg = 0x222
		v := read(t, h, 0x344, 5, lines)
		write(t, h, 0x344, v)
		if got := read(t, h, 0x344, 5, lines); got != v {
			t.Errorf("lines %#x: %#x, not %#x", lines, got, v)
		}
		if got := read(t, h, 0x344, 5, 0); got != v&0x222 {
			t.Errorf("lines %#x, and then none: %#x", lines, got)
		}
		h.Mip = 0
		write(t, h, 0x144, read(t, h, 0x144, 5, lines))
		if got := read(t, h, 0x144, 5, 0); got != lines&2 {
			t.Errorf("144, lines %#x, and then none: %#x", lines, got)
		}
	}
}

// P16.4: what was written is read, but for the bits that the register does not have.
func TestBackWritten(t *testing.T) {
	for _, from := range harts() {
		for no, mask := range masks(from.Mideleg) {
			for _, v := range numbers() {
				h := *from
				if no == 0x300 && v>>11&3 == 2 {
					continue
				}
				write(t, &h, no, v)
				if got := read(t, &h, no, 5, 0); got&mask != v&mask {
					t.Errorf("%#x of %#x: %#x", no, v, got)
				}
			}
		}
	}
}

// P16.4: bits that a register does not have read as noughts, whatever was written, but for those that always stand.
func TestBackLost(t *testing.T) {
	always := map[int]uint64{0x100: 1 << 33, 0x300: 1<<33 + 1<<35, 0x301: 0x8000000000141105}
	seen := map[int]uint64{0x144: 0x222}
	for no, mask := range masks(0x222) {
		for _, v := range numbers() {
			h := fresh()
			h.Mideleg = 0x222
			write(t, h, no, v)
			if got := read(t, h, no, 5, 0); got&^(mask|seen[no]) != always[no] {
				t.Errorf("%#x of %#x: %#x", no, v, got)
			}
		}
	}
}

// P16.4: Satp, whose ways are two.
func TestBackSatp(t *testing.T) {
	for _, v := range numbers() {
		h := fresh()
		h.Satp = v
		got := read(t, h, 0x180, 0, 0)
		write(t, h, 0x180, got)
		if again := read(t, h, 0x180, 0, 0); got != v || again != v {
			t.Errorf("%#x reads as %#x, and then as %#x", v, got, again)
		}
	}
}
