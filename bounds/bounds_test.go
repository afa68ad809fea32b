package bounds_test

import (
	"math"
	"math/big"
	"testing"

	"ravelin/api"
	"ravelin/bounds"
)

const most = math.MaxUint64

// places are addresses at which some part of bounds turns over, and some that are ordinary.
func places() []uint64 {
	list := []uint64{0, 5, 0x1234, 0x80001234, 0x0123456789ABCDEF, 0xFEDCBA9876543210, 3 << 62, 5 << 61, 7 << 61}
	for _, shift := range []uint{0, 3, 4, 11, 12, 13, 14, 15, 16, 31, 40, 50, 51, 52, 53, 54, 55, 62, 63} {
		power := uint64(1) << shift
		list = append(list, power-1, power, power+1, -power, -power-1)
	}
	return list
}

// lengths are numbers of bytes about every exponent, also such that the top, made greater, goes over.
func lengths() []uint64 {
	list := []uint64{0, 1, 16, 17, 1000, 4095, 4097, 8184, 8185, most, most - 1, 3 << 62, 1<<63 + 1<<54}
	for shift := uint(10); shift < 64; shift++ {
		power := uint64(1) << shift
		list = append(list, power-1, power, power+1, power+power>>1, power-power>>10, power-power>>10+1, power-power>>10-1)
	}
	return list
}

// mixed is a row of numbers of all sizes that looks like chance, and is the same each time.
func mixed(count int) []uint64 {
	list := make([]uint64, count)
	state := uint64(1)
	for i := range list {
		state += 0x9E3779B97F4A7C15
		z := (state ^ state>>30) * 0xBF58476D1CE4E5B9
		z = (z ^ z>>27) * 0x94D049BB133111EB
		list[i] = (z ^ z>>31) >> (i * 7 % 64)
	}
	return list
}

// tries are addresses and lengths: every place with every length, and some that are mixed.
func tries() [][2]uint64 {
	var list [][2]uint64
	for _, at := range places() {
		for _, n := range lengths() {
			list = append(list, [2]uint64{at, n}, [2]uint64{-n, n}, [2]uint64{at & bounds.Mask(n), bounds.Round(n)})
		}
	}
	some := mixed(20000)
	for i := 1; i < len(some); i++ {
		list = append(list, [2]uint64{some[i-1], some[i]}, [2]uint64{some[i] << (i % 60), some[i-1]})
	}
	return list
}

// mantissas are values of B about its corners, and of T, if they are below 2^12.
func mantissas() []int {
	var list []int
	for x := 0; x < 1<<14; x += 1 << 11 {
		list = append(list, x, x+1, x+8, x+1<<10, x+1<<11-8, x+1<<11-1)
	}
	return list
}

// eachCap calls f with capabilities of every exponent whose mantissas, and whose address's middle, are about the corners.
func eachCap(f func(c api.Cap)) {
	for e := 0; e <= 52; e++ {
		for _, b := range mantissas() {
			for i, t := range []int{0, 1, 8, 1 << 11, 1<<11 - 8, 1<<12 - 8, 1<<12 - 1, b % (1 << 12), (b + 4095) % (1 << 12)} {
				for k, middle := range []uint64{0, 1<<11 - 1, 1 << 11, 1 << 13, 1<<14 - 1, uint64(b)} {
					upper := []uint64{0, 1, 1<<50 - 1, 1 << 49, 1<<49 - 1}[(i+k)%5]
					address := upper<<14<<e | middle<<e | uint64(b)>>(k+1)
					if e == 0 {
						f(api.Cap{B: b, T: t, Addr: address})
					}
					f(api.Cap{Big: true, E: e, B: b, T: t, Addr: address})
				}
			}
		}
	}
}

// recovered calls f, and tells whether it panics.
func recovered(f func()) (panics bool) {
	defer func() { panics = recover() != nil }()
	f()
	return false
}

// P3.1: what the chapter's examples say of bounds, and what they are about the corner, and at both ends of all addresses.
func TestOfExamples(t *testing.T) {
	for _, x := range []struct {
		c    api.Cap
		want api.Range
	}{
		{api.Cap{Big: true, E: 52}, api.Range{Over: true}},
		{api.Cap{Big: true, E: 52, Addr: 0x8000000000001234}, api.Range{Over: true}},
		{api.Cap{Big: true, E: 52, Addr: most}, api.Range{Over: true}},
		{api.Cap{B: 0x1000, T: 0x010, Addr: 0x1000}, api.Range{Base: 0x1000, Top: 0x1010}},
		{api.Cap{B: 0x1000, T: 0x010, Addr: 0x100F}, api.Range{Base: 0x1000, Top: 0x1010}},

		{api.Cap{}, api.Range{}},
		{api.Cap{B: 0x123, T: 0x122, Addr: 0x123}, api.Range{Base: 0x123, Top: 0x1122}},
		{api.Cap{B: 0x3FFF, T: 0, Addr: 0x3FFF}, api.Range{Base: 0x3FFF, Top: 0x4000}},
		{api.Cap{B: 0x3FFF, T: 0, Addr: 0x4000}, api.Range{Base: 0x3FFF, Top: 0x4000}},
		{api.Cap{B: 0x3FFF, T: 0, Addr: 0x6FFF}, api.Range{Base: 0x3FFF, Top: 0x4000}},
		{api.Cap{B: 0x3FFF, T: 0, Addr: 0x7000}, api.Range{Base: 0x7FFF, Top: 0x8000}},
		{api.Cap{B: 0x3FFF, T: 0, Addr: 0x3000}, api.Range{Base: 0x3FFF, Top: 0x4000}},
		{api.Cap{B: 0x3FFF, T: 0, Addr: 0x2FFF}, api.Range{Base: most, Over: true}},
		{api.Cap{B: 0x3FF0, T: 0xFFF, Addr: most}, api.Range{Base: most - 15, Top: most}},
		{api.Cap{B: 0x3FF0, T: 0, Addr: most}, api.Range{Base: most - 15, Over: true}},
		{api.Cap{B: 0x3FF0, T: 8, Addr: most}, api.Range{Base: most - 15, Top: 8, Over: true}},
		{api.Cap{B: 0x0000, T: 8, Addr: most}, api.Range{Base: 0, Top: 8}},
		{api.Cap{B: 0x0100, T: 8, Addr: most}, api.Range{Base: 0x100, Top: 0x1008}},
		{api.Cap{Big: true, B: 0x1000, T: 0, Addr: 0x1000}, api.Range{Base: 0x1000, Top: 0x2000}},
		{api.Cap{Big: true, B: 0x1008, T: 0, Addr: 0x1008}, api.Range{Base: 0x1008, Top: 0x3000}},
		{api.Cap{Big: true, B: 0x1007, T: 5, Addr: 0x1008}, api.Range{Base: 0x1007, Top: 0x3005}},
		{api.Cap{Big: true, E: 50, B: 0, T: 0, Addr: 5}, api.Range{Top: 1 << 62}},
		{api.Cap{Big: true, E: 51, B: 0, T: 0, Addr: most}, api.Range{Top: 1 << 63}},
		{api.Cap{Big: true, E: 51, B: 0x1000, T: 0, Addr: 5}, api.Range{Base: 1 << 63, Over: true}},
		{api.Cap{Big: true, E: 52, B: 0x0800, T: 0x800, Addr: 5}, api.Range{Base: 1 << 63, Top: 1 << 63, Over: true}},
	} {
		if got := bounds.Of(x.c); got != x.want {
			t.Errorf("Of(%+v) = %+v, want %+v", x.c, got, x.want)
		}
	}
}

// P3.1: of every exponent, at all corners, bounds are what true numbers say; nothing hangs on the other fields.
func TestOfIsTrue(t *testing.T) {
	eachCap(func(c api.Cap) {
		want := trueOf(c)
		if got := bounds.Of(c); got != want {
			t.Fatalf("Of(%+v) = %+v, want %+v", c, got, want)
		}
		c.Tag, c.Perms, c.Type, c.Mode = true, api.AllPerms, 5, 1
		if got := bounds.Of(c); got != want {
			t.Fatalf("Of(%+v) = %+v, want %+v", c, got, want)
		}
	})
}

// P3.1: an address fits just where the bounds stay the same.
func TestFits(t *testing.T) {
	small := api.Cap{B: 0x1000, T: 0x010, Addr: 0x1004}
	for _, x := range []struct {
		at   uint64
		want bool
	}{{0x1000, true}, {0x1010, true}, {0x0800, true}, {0x07FF, false}, {0x47FF, true}, {0x4800, false}, {0x5004, false}, {most, false}} {
		if got := bounds.Fits(small, x.at); got != x.want {
			t.Errorf("Fits(%+v, %#x) = %v", small, x.at, got)
		}
	}
	i, list := 0, places()
	eachCap(func(c api.Cap) {
		i++
		near := c.Addr + uint64(i%9-4)<<(c.E+i%15)
		for _, at := range []uint64{list[i%len(list)], near, c.Addr} {
			moved := c
			moved.Addr = at
			if got := bounds.Fits(c, at); got != (trueOf(moved) == trueOf(c)) {
				t.Fatalf("Fits(%+v, %#x) = %v", c, at, got)
			}
		}
	})
}

// ranges are ranges of all kinds, also such that their top is below their base.
func ranges() []api.Range {
	var list []api.Range
	for _, base := range []uint64{0, 1, 4, 1 << 32, 1<<63 - 1, 1 << 63, most - 8, most} {
		for _, top := range []uint64{0, 1, 3, 4, 5, 8, 1 << 32, 1<<63 - 1, 1 << 63, 1<<63 + 1, most - 8, most} {
			list = append(list, api.Range{Base: base, Top: top}, api.Range{Base: base, Top: top, Over: true})
		}
	}
	return list
}

// P3.2: which bytes are in a range: at its ends, at its top above 2^64, and with a number of bytes below 0.
func TestInExamples(t *testing.T) {
	part := api.Range{Base: 4, Top: 8}
	high := api.Range{Base: 1 << 63, Over: true}
	above := api.Range{Base: 1 << 63, Top: 8, Over: true}
	turned := api.Range{Base: 8, Top: 4}
	for _, x := range []struct {
		r    api.Range
		at   uint64
		n    int
		want bool
	}{
		{part, 4, 4, true}, {part, 4, 5, false}, {part, 3, 1, false}, {part, 3, 0, false}, {part, 8, 0, true}, {part, 9, 0, false}, {part, 7, 1, true}, {part, 7, 2, false},
		{part, 5, -1, false}, {part, 8, -4, false}, {part, 6, math.MinInt, false}, {part, 5, math.MaxInt, false},
		{high, most, 1, true}, {high, most, 2, false}, {high, 1 << 63, math.MaxInt, true}, {high, 1<<63 + 1, math.MaxInt, true}, {high, 1<<63 + 2, math.MaxInt, false}, {high, 1<<63 - 1, 1, false},
		{above, most, 9, true}, {above, most, 10, false}, {above, 0, 8, false},
		{turned, 8, 0, false}, {turned, 4, 0, false}, {turned, 6, 0, false},
		{api.Range{}, 0, 0, true}, {api.Range{}, 0, 1, false}, {api.Range{Over: true}, most, 1, true}, {api.Range{Over: true}, 0, math.MaxInt, true},
		{api.Range{Top: most}, most, 0, true}, {api.Range{Top: most}, most, 1, false}, {api.Range{Top: 5}, most, 2, false},
	} {
		if got := bounds.In(x.r, x.at, x.n); got != x.want {
			t.Errorf("In(%+v, %#x, %d) = %v", x.r, x.at, x.n, got)
		}
	}
}

// P3.2: what is in a range is what true numbers say.
func TestInIsTrue(t *testing.T) {
	for _, r := range ranges() {
		for _, at := range places() {
			for _, n := range []int{math.MinInt, -1 << 32, -1, 0, 1, 2, 4, 16, 4096, 1 << 32, 1 << 62, math.MaxInt - 1, math.MaxInt} {
				behind := sum(number(at), big.NewInt(int64(n)))
				want := n >= 0 && at >= r.Base && behind.Cmp(top(r)) <= 0
				if got := bounds.In(r, at, n); got != want {
					t.Fatalf("In(%+v, %#x, %d) = %v", r, at, n, got)
				}
			}
		}
	}
}

// P3.2: which ranges are within others is what true numbers say.
func TestWithin(t *testing.T) {
	a, b := api.Range{Base: 4, Top: 8}, api.Range{Base: 4, Top: 9}
	all := api.Range{Over: true}
	if !bounds.Within(a, b) || bounds.Within(b, a) || !bounds.Within(a, a) || !bounds.Within(a, all) || bounds.Within(all, a) || bounds.Within(all, api.Range{Top: most}) {
		t.Error("Within of 4 to 8, 4 to 9, all")
	}
	for _, a := range ranges() {
		for _, b := range ranges() {
			want := a.Base >= b.Base && top(a).Cmp(top(b)) <= 0
			if got := bounds.Within(a, b); got != want {
				t.Fatalf("Within(%+v, %+v) = %v", a, b, got)
			}
		}
	}
}

// P3.2: how many bytes a range has is what true numbers say, but at least 0, and at most 2^64 - 1.
func TestLen(t *testing.T) {
	for _, x := range []struct {
		r    api.Range
		want uint64
	}{
		{api.Range{}, 0}, {api.Range{Base: 4, Top: 8}, 4}, {api.Range{Base: 8, Top: 4}, 0}, {api.Range{Top: most}, most},
		{api.Range{Over: true}, most}, {api.Range{Base: 1, Over: true}, most}, {api.Range{Base: 1, Top: 1, Over: true}, most}, {api.Range{Base: 2, Over: true}, most - 1},
		{api.Range{Base: 1 << 63, Over: true}, 1 << 63}, {api.Range{Base: most, Top: most, Over: true}, most}, {api.Range{Base: most, Top: most - 1, Over: true}, most},
	} {
		if got := bounds.Len(x.r); got != x.want {
			t.Errorf("Len(%+v) = %#x, want %#x", x.r, got, x.want)
		}
	}
	for _, r := range ranges() {
		want := new(big.Int).Sub(top(r), number(r.Base))
		if want.Sign() < 0 {
			want.SetInt64(0)
		}
		if want.Cmp(number(most)) > 0 {
			want.SetUint64(most)
		}
		if got := bounds.Len(r); number(got).Cmp(want) != 0 {
			t.Fatalf("Len(%+v) = %#x, want %v", r, got, want)
		}
	}
}

// P3.3: what the chapter's example says, and what is laid about 2^12, 2^13, 2^63, at tops of 2^64 and above, and where t goes over.
func TestLayExamples(t *testing.T) {
	for _, x := range []struct {
		at, n   uint64
		big     bool
		e, b, t int
		just    bool
	}{
		{0x1000, 16, false, 0, 0x1000, 0x010, true},

		{0, 0, false, 0, 0, 0, true},
		{5, 4095, false, 0, 5, 4, true},
		{0x1001, 0, false, 0, 0x1001, 1, true},
		{most, 1, false, 0, 0x3FFF, 0, true},
		{most, 3, false, 0, 0x3FFF, 2, true},
		{0x1000, 4096, true, 0, 0x1000, 0, true},
		{0x1008, 4096, true, 0, 0x1008, 8, true},
		{0x1001, 4096, true, 0, 0x1000, 8, false},
		{0x1000, 4097, true, 0, 0x1000, 8, false},
		{0, 8184, true, 0, 0, 0xFF8, true},
		{0, 8185, true, 1, 0, 0, false},
		{0, 8191, true, 1, 0, 0, false},
		{0, 8192, true, 1, 0, 0, true},
		{8, 8184, true, 0, 8, 0, true},
		{8, 8185, true, 1, 0, 8, false},
		{0x18, 8184, true, 0, 0x18, 0x10, true},
		{0x11, 8184, true, 1, 8, 8, false},
		{0x14, 8184, true, 1, 8, 8, false},
		{8, 1 << 20, true, 8, 0, 8, false},
		{0x80000000, 1 << 16, true, 4, 0, 0, true},
		{0, 1 << 63, true, 51, 0, 0, true},
		{1 << 63, 1 << 63, true, 51, 0x1000, 0, true},
		{1<<63 + 1<<54, 1 << 63, true, 51, 0x1008, 8, true},
		{0, 1<<63 - 1, true, 51, 0, 0, false},
		{0, 1<<63 + 1, true, 51, 0, 8, false},
		{0, most, true, 52, 0, 0, false},
		{most, most, true, 52, 0xFF8, 0, false},
	} {
		want := api.Cap{Addr: x.at, Big: x.big, E: x.e, B: x.b, T: x.t}
		if got, just := bounds.Lay(api.Cap{Addr: x.at}, x.n); got != want || just != x.just {
			t.Errorf("Lay at %#x of %#x = %+v, %v, want %+v, %v", x.at, x.n, got, just, want, x.just)
		}
	}
}

// P3.3: what is laid is what the document says, step by step, with true numbers.
func TestLayIsTrue(t *testing.T) {
	for _, x := range tries() {
		c := api.Cap{Addr: x[0]}
		want, wantJust := trueLay(c, x[1])
		if got, just := bounds.Lay(c, x[1]); got != want || just != wantJust {
			t.Fatalf("Lay at %#x of %#x = %+v, %v, want %+v, %v", x[0], x[1], got, just, want, wantJust)
		}
	}
}

// P3.3: what is no bound stays as it is, and what bounds there were does not matter.
func TestLayKeepsTheRest(t *testing.T) {
	for _, n := range lengths() {
		c := api.Cap{Tag: true, Perms: 0x5A5A, Type: 77, Mode: 1, E: 40, B: 0x1238, T: 0x458, Big: true, Addr: 0x123456789}
		want, wantJust := bounds.Lay(api.Cap{Addr: c.Addr}, n)
		want.Tag, want.Perms, want.Type, want.Mode = true, 0x5A5A, 77, 1
		if got, just := bounds.Lay(c, n); got != want || just != wantJust {
			t.Fatalf("Lay(%+v, %#x) = %+v, %v, want %+v, %v", c, n, got, just, want, wantJust)
		}
	}
}

// P3.4: what the chapter's examples say of lengths, and what holds about each exponent's end.
func TestMaskAndRoundExamples(t *testing.T) {
	for _, x := range []struct{ n, mask, round uint64 }{
		{0, most, 0}, {1, most, 1}, {17, most, 17}, {4095, most, 4095},
		{4096, most - 7, 4096}, {4097, most - 7, 4104}, {8184, most - 7, 8184},
		{8185, most - 15, 8192}, {8191, most - 15, 8192}, {8192, most - 15, 8192}, {8193, most - 15, 8208},
		{1 << 20, most - 1<<11 + 1, 1 << 20}, {1<<20 + 1, most - 1<<11 + 1, 1<<20 + 1<<11},
		{1 << 63, most - 1<<54 + 1, 1 << 63}, {1<<63 - 1, most - 1<<54 + 1, 1 << 63}, {1<<63 + 1, most - 1<<54 + 1, 1<<63 + 1<<54},
		{most - 1<<54 + 1, most - 1<<54 + 1, most - 1<<54 + 1}, {most - 1<<54 + 2, most - 1<<55 + 1, 0}, {most, most - 1<<55 + 1, 0},
	} {
		if mask, round := bounds.Mask(x.n), bounds.Round(x.n); mask != x.mask || round != x.round {
			t.Errorf("of %#x Mask is %#x, want %#x; Round %#x, want %#x", x.n, mask, x.mask, round, x.round)
		}
	}
}

// P3.4: Mask hangs on what is laid at 0; Round is the least number from n on, modulo 2^64, that has none of the bits that Mask has not.
func TestMaskAndRoundAreTrue(t *testing.T) {
	for _, n := range append(lengths(), mixed(5000)...) {
		want := uint64(most)
		if c, _ := trueLay(api.Cap{}, n); c.Big {
			want = most << (c.E + 3)
		}
		mask, round := bounds.Mask(n), bounds.Round(n)
		if mask != want {
			t.Fatalf("Mask(%#x) = %#x, want %#x", n, mask, want)
		}
		if round&^mask != 0 || round-n > ^mask {
			t.Fatalf("Round(%#x) = %#x with the mask %#x", n, round, mask)
		}
	}
}

// P3.5: what is laid has the n bytes; and just these where it says so.
func TestLaidIsEnough(t *testing.T) {
	for _, x := range tries() {
		at, n := x[0], x[1]
		if end(at, n).Cmp(power(64)) > 0 {
			continue
		}
		c, just := bounds.Lay(api.Cap{Addr: at}, n)
		r := bounds.Of(c)
		if r.Base > at || top(r).Cmp(end(at, n)) < 0 {
			t.Fatalf("at %#x of %#x bytes are %+v", at, n, r)
		}
		if just && (r.Base != at || bounds.Len(r) != n || top(r).Cmp(end(at, n)) != 0) {
			t.Fatalf("at %#x of %#x bytes, just these, are %+v", at, n, r)
		}
	}
}

// P3.6: an address and a length that have none of the bits that Mask has not are laid just so.
func TestRoundedIsJust(t *testing.T) {
	seen := 0
	for _, x := range tries() {
		at, n := x[0], x[1]
		if at&^bounds.Mask(n) != 0 || n != bounds.Round(n) || end(at, n).Cmp(power(64)) > 0 {
			continue
		}
		seen++
		if c, just := bounds.Lay(api.Cap{Addr: at}, n); !just {
			t.Fatalf("at %#x of %#x bytes is laid %+v, not just these", at, n, c)
		}
	}
	if seen < 1000 {
		t.Fatalf("only %d were tried", seen)
	}
}

// P3.7: every address in bounds that Lay made fits; with it they are the same.
func TestInsideFits(t *testing.T) {
	some := mixed(64)
	for i, x := range tries() {
		c, _ := bounds.Lay(api.Cap{Addr: x[0]}, x[1])
		r := bounds.Of(c)
		size := bounds.Len(r)
		for _, off := range []uint64{0, 1, size / 3, size / 2, size - 1, size - 2, some[i%64] % max(size, 1)} {
			at := r.Base + off
			if at < r.Base || number(at).Cmp(top(r)) >= 0 {
				continue
			}
			if !bounds.Fits(c, at) {
				t.Fatalf("of %#x bytes at %#x, from %#x on: %#x does not fit", x[1], x[0], r.Base, at)
			}
		}
	}
}

// R1: fields that no capability has make no call panic.
func TestWrongFieldsEnd(t *testing.T) {
	wrongs := []int{math.MinInt, -1 << 32, -64, -15, -14, -1, 1, 51, 52, 53, 63, 64, 65, 1 << 12, 1 << 14, 1 << 32, math.MaxInt}
	for _, e := range wrongs {
		for _, b := range wrongs {
			for _, x := range wrongs {
				for _, big := range []bool{false, true} {
					c := api.Cap{E: e, B: b, T: x, Big: big, Addr: 0x8000000012345678}
					if recovered(func() { bounds.Of(c); bounds.Fits(c, most); bounds.Lay(c, 1<<20) }) {
						t.Fatalf("%+v panics", c)
					}
				}
			}
		}
	}
}
