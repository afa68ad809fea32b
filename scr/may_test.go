package scr_test

import (
	"math"
	"testing"

	"ravelin/api"
)

// P17.1: all registers, and numbers that are none, with every privilege, to be read and to be written, with PSystem and without.
func TestMayEvery(t *testing.T) {
	for _, priv := range privileges() {
		for _, perms := range []int{every, every - system, system, 0} {
			h := asking(priv, perms)
			for _, no := range numbers() {
				may(t, h, no, false, 7)
				may(t, h, no, true, 7)
			}
		}
	}
}

// P17.1: who may what, told one by one: the least privilege to read, and to write.
func TestMayTable(t *testing.T) {
	const nobody = 4
	for no, least := range map[int][2]int{
		0: {user, nobody}, 1: {user, user},
		12: {supervisor, supervisor}, 13: {supervisor, supervisor}, 14: {supervisor, supervisor}, 15: {supervisor, supervisor},
		28: {machine, machine}, 29: {machine, machine}, 30: {machine, machine}, 31: {machine, machine},
	} {
		for _, priv := range []int{user, supervisor, machine} {
			for i, w := range []bool{false, true} {
				want := api.Trap{}
				if priv < least[i] {
					want = trap(illegal, 99)
				}
				if got := may(t, asking(priv, system), no, w, 99); got != want {
					t.Errorf("May(%d, %v) of %d: %+v; want %+v", no, w, priv, got, want)
				}
			}
		}
	}
}

// P17.1: each reason alone.
func TestMayReasons(t *testing.T) {
	none := api.Trap{}
	for i, x := range []struct {
		priv, perms, no int
		w               bool
		want            api.Trap
	}{
		{machine, every, 2, false, trap(illegal, 7)},
		{machine, every, 11, true, trap(illegal, 7)},
		{machine, every, 16, false, trap(illegal, 7)},
		{machine, every, 27, true, trap(illegal, 7)},
		{machine, every, 32, false, trap(illegal, 7)},
		{machine, every, 33, false, trap(illegal, 7)},
		{machine, every, 64, true, trap(illegal, 7)},
		{machine, every, -1, false, trap(illegal, 7)},
		{machine, every, 0, true, trap(illegal, 7)},
		{machine, every, 0, false, none},
		{user, 0, 0, false, none},
		{user, 0, 1, true, none},
		{user, every, 12, false, trap(illegal, 7)},
		{user, every, 15, true, trap(illegal, 7)},
		{supervisor, every, 12, true, none},
		{supervisor, every, 15, false, none},
		{supervisor, every, 28, false, trap(illegal, 7)},
		{supervisor, every, 31, true, trap(illegal, 7)},
		{machine, every, 28, true, none},
		{machine, every, 31, false, none},
		{machine, every, 12, true, none},
		{supervisor, every - system, 12, false, trap(refused, noSystem)},
		{supervisor, every - system, 15, true, trap(refused, noSystem)},
		{machine, every - system, 13, true, trap(refused, noSystem)},
		{machine, every - system, 28, false, trap(refused, noSystem)},
		{machine, every - system, 31, true, trap(refused, noSystem)},
	} {
		if got := may(t, asking(x.priv, x.perms), x.no, x.w, 7); got != x.want {
			t.Errorf("%d: May(%d, %v) of %d: %+v; want %+v", i, x.no, x.w, x.priv, got, x.want)
		}
	}
}

// P17.1: of two reasons the first one counts: what is illegal is so without PSystem, too.
func TestMayFirst(t *testing.T) {
	for i, x := range []struct {
		priv, no int
		w        bool
	}{
		{machine, 16, false}, {machine, 27, true}, {machine, 32, false}, {machine, 2, true},
		{machine, 0, true}, {user, 0, true},
		{user, 12, false}, {user, 15, true}, {user, 28, false}, {user, 31, true},
		{supervisor, 28, false}, {supervisor, 31, true},
		{user, 20, true}, {user, math.MaxInt, true}, {user, math.MinInt, true},
	} {
		if got := may(t, asking(x.priv, 0), x.no, x.w, 8); got != trap(illegal, 8) {
			t.Errorf("%d: May(%d, %v) of %d: %+v", i, x.no, x.w, x.priv, got)
		}
	}
}

// P17.1: the value is raw as it was handed in, all 32 bits and no sign; of a refusal for the system it is 1048 always.
func TestMayRaw(t *testing.T) {
	list := []uint32{0, 1, 7, 1048, 0x30200073, math.MaxInt32, 1 << 31, 0xFFFF0000, math.MaxUint32}
	for bit := range 32 {
		list = append(list, 1<<bit)
	}
	for _, raw := range list {
		for _, no := range []int{2, 0, 12, 28, 32, -1} {
			if got := may(t, asking(user, every), no, true, raw); got != trap(illegal, uint64(raw)) {
				t.Errorf("May(%d) of raw %#x: %+v", no, raw, got)
			}
		}
		for _, no := range []int{12, 15, 28, 31} {
			if got := may(t, asking(machine, every-system), no, true, raw); got != trap(refused, noSystem) {
				t.Errorf("May(%d) of raw %#x without PSystem: %+v", no, raw, got)
			}
		}
		if got := may(t, asking(machine, every), 31, true, raw); got != (api.Trap{}) {
			t.Errorf("May(31) of raw %#x: %+v", raw, got)
		}
	}
}

// P17.1: of Pcc nothing counts but PSystem: not its tag, nor its type, nor its mode, nor its bounds; and of the register itself nothing.
func TestMayPcc(t *testing.T) {
	for _, c := range sorts() {
		for bit := range 16 {
			for _, perms := range []int{1 << bit, every - 1<<bit} {
				h := marked(3)
				for _, no := range registers() {
					*field(h, no) = c
				}
				h.Pcc.Perms = perms
				want := api.Trap{}
				if perms>>9&1 == 0 {
					want = trap(refused, noSystem)
				}
				for _, no := range registers()[2:] {
					if got := may(t, h, no, true, 5); got != want {
						t.Fatalf("May(%d) of %+v: %+v; want %+v", no, h.Pcc, got, want)
					}
				}
				if a, b := may(t, h, 0, false, 5), may(t, h, 1, true, 5); a.Is || b.Is {
					t.Fatalf("May(0), May(1) of %+v: %+v, %+v", h.Pcc, a, b)
				}
			}
		}
	}
}

// P17.1: processors of all sorts, with every privilege.
func TestMayHarts(t *testing.T) {
	for _, h := range harts() {
		for _, priv := range privileges() {
			h.Priv = priv
			for no := -2; no <= 66; no++ {
				may(t, h, no, false, 9)
				may(t, h, no, true, 9)
			}
		}
	}
}
