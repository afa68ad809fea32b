package csr_test

import (
	"math"
	"testing"

	"ravelin/api"
	"ravelin/capenc"
)

// P16.3: all bits, none, and one bit at a time, of every register, of processors of all sorts; nothing else changes.
func TestWrite(t *testing.T) {
	for _, from := range harts() {
		for _, no := range registers() {
			for _, v := range numbers() {
				h := *from
				write(t, &h, no, v)
			}
		}
	}
}

// P16.3: many writes, one behind the other.
func TestWriteOften(t *testing.T) {
	h, list := busy(2), registers()
	for i := range uint64(20000) {
		no := list[mix(i)%uint64(len(list))]
		v := mix(i + 1<<20)
		if i%3 == 0 {
			v = numbers()[mix(i+1<<21)%uint64(len(numbers()))]
		}
		write(t, h, no, v)
		read(t, h, no, i, v)
	}
}

// P16.3: what the privilege is changes nothing of a write, nor whether it is done.
func TestWriteAnyPrivilege(t *testing.T) {
	for _, priv := range []int{user, supervisor, machine} {
		for _, no := range registers() {
			for _, v := range []uint64{0, 0x1888, math.MaxUint64} {
				h := full()
				h.Priv, h.Pcc.Perms = priv, 0
				write(t, h, no, v)
			}
		}
	}
}

// P16.3: an MPP of 2 is one of 0, whatever stands beside; 0, 1 and 3 stay.
func TestWriteMpp(t *testing.T) {
	for mpp := range uint64(4) {
		for _, beside := range append(numbers(), 0x7E01AA) {
			v := without(without(beside, 11), 12) + mpp<<11
			for _, ahead := range []uint64{0, 0x800, 0x1800, math.MaxUint64} {
				h := fresh()
				h.Mstatus = ahead
				write(t, h, 0x300, v)
				want := []uint64{0, 1, 0, 3}[mpp]
				if got := read(t, h, 0x300, 0, 0); got>>11&3 != want || got&^0x1800 != v&0x7E01AA|1<<33|1<<35 {
					t.Errorf("300 of %#x: %#x", v, got)
				}
			}
		}
	}
}

// P16.3: what a supervisor writes of Mstatus leaves all other bits, the MPP too.
func TestWriteSstatus(t *testing.T) {
	for _, ahead := range append(numbers(), 0x1888, 0x800, 0x7E19AA) {
		for _, v := range []uint64{0, math.MaxUint64, 0x122, 0xC0000, 0x1000} {
			h := fresh()
			h.Mstatus = ahead
			write(t, h, 0x100, v)
			if want := ahead&^0xC0122 | v&0xC0122; h.Mstatus != want {
				t.Errorf("100 of %#x, behind %#x: %#x", v, ahead, h.Mstatus)
			}
		}
	}
}

// P16.3: Satp stays, unless the highest four bits are 0 or 8.
func TestWriteSatp(t *testing.T) {
	for top := range uint64(16) {
		for _, rest := range numbers() {
			v := top<<60 + rest&(1<<60-1)
			for _, ahead := range []uint64{0, 5, 8<<60 + 77, math.MaxUint64} {
				h := fresh()
				h.Satp = ahead
				want := ahead
				if top == 0 || top == 8 {
					want = v
				}
				if !write(t, h, 0x180, v) || h.Satp != want {
					t.Errorf("180 of %#x, behind %#x: %#x", v, ahead, h.Satp)
				}
			}
		}
	}
}

// P16.3: of 104 those bits are written that are passed on, and of 144 only bit 1, if it is.
func TestWritePassed(t *testing.T) {
	for bit := range 64 {
		for _, passed := range []uint64{1 << bit, ^(uint64(1) << bit)} {
			for _, ahead := range []uint64{0, math.MaxUint64} {
				for _, v := range []uint64{0, math.MaxUint64} {
					h := fresh()
					h.Mideleg, h.Mie, h.Mip = passed, ahead, ahead
					write(t, h, 0x104, v)
					write(t, h, 0x144, v)
					if want := ahead&^(passed&0x222) | v&passed&0x222; h.Mie != want {
						t.Errorf("104 of %#x, Mideleg %#x: %#x", v, passed, h.Mie)
					}
					if want := ahead&^(passed&2) | v&passed&2; h.Mip != want {
						t.Errorf("144 of %#x, Mideleg %#x: %#x", v, passed, h.Mip)
					}
				}
			}
		}
	}
}

// P16.3: a capability is moved to what is written without its bit 1, or 0, and is the same else.
func TestWriteAddress(t *testing.T) {
	for _, x := range []struct {
		no  int
		bit uint64
		at  func(h *api.Hart) *api.Cap
	}{
		{0x105, 2, func(h *api.Hart) *api.Cap { return &h.Stcc }},
		{0x141, 1, func(h *api.Hart) *api.Cap { return &h.Sepcc }},
		{0x305, 2, func(h *api.Hart) *api.Cap { return &h.Mtcc }},
		{0x341, 1, func(h *api.Hart) *api.Cap { return &h.Mepcc }},
	} {
		for _, v := range append(numbers(), 0x80000000, 0x80000001, 0x80000002, 0x80000003) {
			h := busy(1)
			*x.at(h) = capenc.Root(1, 0x77)
			write(t, h, x.no, v)
			if want := capenc.Root(1, v&^x.bit); *x.at(h) != want {
				t.Errorf("%#x of %#x: %+v", x.no, v, *x.at(h))
			}
			if got := read(t, h, x.no, 0, 0); got != v&^x.bit {
				t.Errorf("Read(%#x) behind %#x: %#x", x.no, v, got)
			}
		}
	}
}

// P16.3: the tag is lost, if it is sealed, or the address does not fit; not the address.
func TestWriteTag(t *testing.T) {
	const at = 0x12340
	list := sorts(at)
	root, narrow, sentry, sealed, plain := list[0], list[1], list[3], list[4], list[5]
	for _, no := range []int{0x105, 0x141, 0x305, 0x341} {
		for i, x := range []struct {
			c    api.Cap
			v    uint64
			want bool
		}{
			{root, 0, true}, {root, 1<<64 - 4, true},
			{narrow, at, true}, {narrow, at + 32, true}, {narrow, at + 1<<40, false}, {narrow, 0, false},
			{sentry, at, false}, {sentry, at + 32, false}, {sealed, at, false}, {sealed, at + 1<<40, false},
			{plain, at, false}, {plain, 0, false},
		} {
			h := fresh()
			h.Stcc, h.Sepcc, h.Mtcc, h.Mepcc = x.c, x.c, x.c, x.c
			write(t, h, no, x.v)
			for other, c := range map[int]api.Cap{0x105: h.Stcc, 0x141: h.Sepcc, 0x305: h.Mtcc, 0x341: h.Mepcc} {
				want := x.c
				if other == no {
					want.Tag, want.Addr = x.want, x.v
				}
				if c != want {
					t.Errorf("%d: %#x of %#x: %#x is %+v; want %+v", i, no, x.v, other, c, want)
				}
			}
		}
	}
}

// P16.3: what has nothing, and what is read alone, is written without a trace; the latter answers false.
func TestWriteNothing(t *testing.T) {
	from := busy(3)
	for _, no := range registers() {
		nothing := no == 0x301 || no >= 0x3A0 && no <= 0x3EF
		if !nothing && !readAlone(no) {
			continue
		}
		for _, v := range numbers() {
			h := *from
			if write(t, &h, no, v) != nothing {
				t.Errorf("Write(%#x, %#x)", no, v)
			}
			same(t, &h, from)
		}
	}
}
