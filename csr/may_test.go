package csr_test

import (
	"math"
	"testing"

	"ravelin/api"
)

// bad is the trap of what is illegal, noPerm that of a Pcc without PSystem.
func bad() api.Trap    { return api.Trap{Is: true, Cause: 2, Value: 0} }
func noPerm() api.Trap { return api.Trap{Is: true, Cause: 28, Value: 1048} }

// asking is a processor with a privilege; plain: its Pcc has not PSystem, and all else.
func asking(priv int, status, m, s uint64, plain bool) *api.Hart {
	h := fresh()
	h.Priv, h.Mstatus, h.Mcounteren, h.Scounteren = priv, status, m, s
	if plain {
		h.Pcc.Perms -= 512
	}
	return h
}

// statuses is what Mstatus may be.
func statuses() []uint64 {
	return []uint64{0, 1 << 20, math.MaxUint64, ^uint64(1 << 20), 1 << 19, 1 << 21}
}

// P16.1: all numbers, to be read and to be written, by every privilege, with PSystem and without.
func TestMayEvery(t *testing.T) {
	for _, priv := range []int{user, supervisor, machine} {
		for _, plain := range []bool{false, true} {
			h := asking(priv, 0, 7, 7, plain)
			for _, no := range every() {
				may(t, h, no, false)
				may(t, h, no, true)
			}
		}
	}
}

// P16.1: each reason alone.
func TestMayReasons(t *testing.T) {
	none := api.Trap{}
	for i, x := range []struct {
		h    *api.Hart
		no   int
		w    bool
		want api.Trap
	}{
		{asking(machine, 0, 0, 0, false), 0x300, true, none},
		{asking(machine, 0, 0, 0, false), 0x7FF, false, bad()},
		{asking(machine, 0, 0, 0, false), -1, false, bad()},
		{asking(machine, 0, 0, 0, false), 0x1300, false, bad()},
		{asking(user, 0, 7, 7, false), 0x3EF + 1, false, bad()},
		{asking(supervisor, 0, 0, 0, false), 0x300, false, bad()},
		{asking(supervisor, 0, 0, 0, false), 0xB00, true, bad()},
		{asking(supervisor, 0, 0, 0, false), 0xF14, false, bad()},
		{asking(user, 0, 0, 0, false), 0x100, false, bad()},
		{asking(supervisor, 0, 0, 0, false), 0x100, true, none},
		{asking(machine, 0, 0, 0, false), 0xF11, true, bad()},
		{asking(machine, 0, 0, 0, false), 0xF11, false, none},
		{asking(machine, 0, 7, 7, false), 0xC01, true, bad()},
		{asking(supervisor, 1<<20, 0, 0, false), 0x180, false, bad()},
		{asking(supervisor, 0, 0, 0, false), 0x180, true, none},
		{asking(supervisor, 0, 0, 7, false), 0xC00, false, bad()},
		{asking(user, 0, 7, 0, false), 0xC02, false, bad()},
		{asking(user, 0, 0, 7, false), 0xC02, false, bad()},
		{asking(user, 0, 7, 7, false), 0xC02, false, none},
		{asking(machine, 0, 0, 0, true), 0x300, false, noPerm()},
		{asking(supervisor, 0, 0, 0, true), 0x140, true, noPerm()},
		{asking(user, 0, 7, 7, true), 0xC02, false, none},
	} {
		if got := may(t, x.h, x.no, x.w); got != x.want {
			t.Errorf("%d: May(%#x, %v): %+v; want %+v", i, x.no, x.w, got, x.want)
		}
	}
}

// P16.1: of two reasons the first one counts: what is illegal is so without PSystem, too.
func TestMayFirst(t *testing.T) {
	for i, x := range []struct {
		h  *api.Hart
		no int
		w  bool
	}{
		{asking(machine, 0, 0, 0, true), 0x7FF, false},
		{asking(machine, 0, 0, 0, true), 0x1300, true},
		{asking(supervisor, 0, 0, 0, true), 0x300, false},
		{asking(user, 0, 0, 0, true), 0x100, false},
		{asking(machine, 0, 0, 0, true), 0xF11, true},
		{asking(user, 0, 0, 0, true), 0xF11, true},
		{asking(supervisor, 1<<20, 0, 0, true), 0x180, true},
		{asking(supervisor, 0, 0, 0, true), 0xC00, false},
		{asking(user, 0, 7, 0, true), 0xC00, true},
	} {
		if got := may(t, x.h, x.no, x.w); got != bad() {
			t.Errorf("%d: May(%#x, %v): %+v", i, x.no, x.w, got)
		}
	}
}

// P16.1: Satp is kept from a supervisor by Mstatus's bit 20, from a machine by nothing, and no other register by it.
func TestMaySatp(t *testing.T) {
	for _, status := range statuses() {
		for _, w := range []bool{false, true} {
			kept := status == 1<<20 || status == math.MaxUint64
			if got := may(t, asking(supervisor, status, 7, 7, false), 0x180, w); got.Is != kept {
				t.Errorf("a supervisor, %#x: %+v", status, got)
			}
			if got := may(t, asking(machine, status, 7, 7, false), 0x180, w); got.Is {
				t.Errorf("a machine, %#x: %+v", status, got)
			}
			if got := may(t, asking(user, status, 7, 7, false), 0x180, w); got != bad() {
				t.Errorf("a user, %#x: %+v", status, got)
			}
		}
		for _, no := range registers() {
			for _, priv := range []int{user, supervisor, machine} {
				may(t, asking(priv, status, 7, 7, false), no, false)
			}
		}
	}
}

// P16.1: counters are shown by their bits of Mcounteren, and, to users, of Scounteren.
func TestMayCounters(t *testing.T) {
	for shown := range uint64(64) {
		m, s := shown/8, shown%8
		for i, no := range []int{0xC00, 0xC01, 0xC02} {
			wants := map[int]bool{machine: true, supervisor: has(m, i), user: has(m, i) && has(s, i)}
			for priv, want := range wants {
				for _, plain := range []bool{false, true} {
					if got := may(t, asking(priv, 0, m, s, plain), no, false); got.Is == want {
						t.Errorf("%#x of %d, %b and %b: %+v", no, priv, m, s, got)
					}
					if got := may(t, asking(priv, 0, m, s, plain), no, true); got != bad() {
						t.Errorf("%#x of %d, to be written: %+v", no, priv, got)
					}
				}
			}
		}
	}
}

// P16.1: bits of other numbers show no counter, and no other register asks for them.
func TestMayCounterBits(t *testing.T) {
	for bit := range 64 {
		for i, no := range []int{0xC00, 0xC01, 0xC02} {
			for _, v := range []uint64{1 << bit, ^(uint64(1) << bit)} {
				if got := may(t, asking(user, 0, v, math.MaxUint64, false), no, false); got.Is == has(v, i) {
					t.Errorf("%#x, Mcounteren %#x: %+v", no, v, got)
				}
				if got := may(t, asking(user, 0, math.MaxUint64, v, false), no, false); got.Is == has(v, i) {
					t.Errorf("%#x, Scounteren %#x: %+v", no, v, got)
				}
			}
		}
	}
	for _, no := range registers() {
		if got := may(t, asking(machine, 0, 0, 0, false), no, false); got.Is {
			t.Errorf("%#x with no counters: %+v", no, got)
		}
	}
}

// P16.1: of Pcc nothing counts but PSystem, not its tag, nor its type, nor its bounds.
func TestMayPcc(t *testing.T) {
	for _, c := range sorts(0x1000) {
		for bit := range 16 {
			for _, perms := range []int{1 << bit, 65535 - 1<<bit} {
				h := fresh()
				h.Pcc = c
				h.Pcc.Perms = perms
				want := api.Trap{}
				if !has(uint64(perms), 9) {
					want = noPerm()
				}
				if got := may(t, h, 0x340, true); got != want {
					t.Errorf("Pcc %+v: %+v", h.Pcc, got)
				}
				if got := may(t, h, 0xC00, false); got.Is {
					t.Errorf("Pcc %+v, of C00: %+v", h.Pcc, got)
				}
			}
		}
	}
}

// P16.1: processors of all sorts.
func TestMayHarts(t *testing.T) {
	for _, h := range harts() {
		for _, priv := range []int{user, supervisor, machine} {
			h.Priv = priv
			for _, no := range registers() {
				may(t, h, no, false)
				may(t, h, no, true)
			}
		}
	}
}

// P16.5: who has more privilege may all that is permitted with less.
func TestMayMore(t *testing.T) {
	list := harts()
	for _, status := range statuses() {
		for shown := range uint64(64) {
			list = append(list, asking(0, status, shown/8, shown%8, false), asking(0, status, shown/8, shown%8, true))
		}
	}
	for _, h := range list {
		for _, no := range append(registers(), 0x7FF, -1, 0x1100) {
			for _, w := range []bool{false, true} {
				permitted := false
				for _, priv := range []int{user, supervisor, machine} {
					h.Priv = priv
					now := !may(t, h, no, w).Is
					if permitted && !now {
						t.Fatalf("%#x, %v: %d may not what less privilege may", no, w, priv)
					}
					permitted = now
				}
			}
		}
	}
}
