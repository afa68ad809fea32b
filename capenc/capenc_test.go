package capenc_test

import (
	"math"
	"testing"

	"ravelin/api"
	"ravelin/capenc"
)

const most = math.MaxUint64

// places are addresses about their ends, and some that are ordinary.
func places() []uint64 {
	return []uint64{0, 1, 5, 0x80001234, 0x0123456789ABCDEF, 1<<63 - 1, 1 << 63, most - 1, most}
}

// mixed is a row of numbers of all sizes that looks like chance, and is the same each time.
func mixed(count int) []uint64 {
	list := make([]uint64, count)
	state := uint64(1)
	for i := range list {
		state += 0x9E3779B97F4A7C15
		z := (state ^ state>>30) * 0xBF58476D1CE4E5B9
		z = (z ^ z>>27) * 0x94D049BB133111EB
		list[i] = (z ^ z>>31) >> (i * 7 % 64)
	}
	return list
}

// ends are a field's values about its ends, from 0 up to ahead of 2 to the bits, and its bits one by one.
func ends(bits int) []int {
	list := []int{0, 1<<bits - 1, 1<<bits - 2}
	for bit := range bits {
		list = append(list, 1<<bit)
	}
	return list
}

// withBounds is right capabilities of all exponents, with mantissas about their ends, and such as are not Big.
func withBounds() []api.Cap {
	var list []api.Cap
	for _, b := range append(ends(14), 3, 0x1234) {
		for _, t := range append(ends(12), 5, 0x678) {
			c := capenc.Number(uint64(len(list)))
			c.Big, c.E, c.B, c.T = false, 0, b, t
			list = append(list, c)
			for e := 0; e <= 52 && b%8 == 0 && t%8 == 0; e++ {
				c.Big, c.E = true, e
				list = append(list, c)
			}
		}
	}
	return list
}

// rights is right capabilities without a tag: each field about its ends, and all fields mixed.
func rights() []api.Cap {
	list := withBounds()
	for _, perms := range ends(16) {
		for _, kind := range append(ends(18), api.TypeSentry, api.MaxType) {
			for mode := range 2 {
				c := capenc.Number(7)
				c.Perms, c.Type, c.Mode = perms, kind, mode
				list = append(list, c)
			}
		}
	}
	some := mixed(20000)
	for i := 1; i < len(some); i++ {
		a, b := some[i-1], some[i]
		c := api.Cap{Perms: int(a % 65536), Type: int(b % 262144), Mode: i % 2, B: int(a >> 16 % 16384), T: int(b >> 18 % 4096), Addr: a ^ b<<32}
		if c.Big = i%3 > 0; c.Big {
			c.E, c.B, c.T = i%53, c.B&^7, c.T&^7
		}
		list = append(list, c)
	}
	return list
}

// metas are numbers that stand for fields: each bit alone, many at once, all exponents that six bits can tell with and without the upper two bits, and some that are mixed.
func metas() []uint64 {
	list := append(mixed(20000), 0, most, nullMeta, most^nullMeta, 3<<62, 1<<62-1)
	for bit := range 64 {
		list = append(list, 1<<bit, most^1<<bit, nullMeta^1<<bit, most<<bit)
	}
	for e := range uint64(64) {
		for _, rest := range []uint64{0, 0x3FF8, 0xFF8 << 14, 1 << 26, 3 << 62, 1 << 62, 1 << 63, most &^ (7 | 7<<14 | 1<<26)} {
			list = append(list, (e%8|e/8<<14)^rest)
		}
	}
	return list
}

// recovered tells whether a call panics.
func recovered(call func()) (panicked bool) {
	defer func() { panicked = recover() != nil }()
	call()
	return false
}

// P4.1: a number is the null, with that address.
func TestNumber(t *testing.T) {
	for _, n := range places() {
		want := api.Cap{Type: 262143, E: 52, Big: true, Addr: n}
		if got := capenc.Number(n); got != want || !capenc.Right(got) {
			t.Errorf("Number(%#x) = %+v", n, got)
		}
	}
}

// P4.1: a root is to all, for all; its mode is 1 only where it is asked for by 1.
func TestRoot(t *testing.T) {
	for _, at := range places() {
		for _, mode := range []int{0, 1, 2, 3, -1, -2, 1 << 32, 1<<32 + 1, math.MinInt, math.MinInt + 1, math.MaxInt} {
			want := api.Cap{Tag: true, Perms: 65535, Type: 262143, E: 52, Big: true, Addr: at}
			if mode == 1 {
				want.Mode = 1
			}
			if got := capenc.Root(mode, at); got != want || !capenc.Right(got) {
				t.Errorf("Root(%d, %#x) = %+v", mode, at, got)
			}
		}
	}
}

// P4.1: what is right, and what is just beside it.
func TestRightExamples(t *testing.T) {
	for i, x := range []struct {
		turn func(c *api.Cap)
		want bool
	}{
		{func(c *api.Cap) {}, true},
		{func(c *api.Cap) { c.Tag = true }, true},
		{func(c *api.Cap) { c.Addr = most }, true},
		{func(c *api.Cap) { c.Perms = 65535 }, true},
		{func(c *api.Cap) { c.Perms = 65536 }, false},
		{func(c *api.Cap) { c.Perms = -1 }, false},
		{func(c *api.Cap) { c.Type = 0 }, true},
		{func(c *api.Cap) { c.Type = 262144 }, false},
		{func(c *api.Cap) { c.Type = -1 }, false},
		{func(c *api.Cap) { c.Mode = 1 }, true},
		{func(c *api.Cap) { c.Mode = 2 }, false},
		{func(c *api.Cap) { c.Mode = -1 }, false},
		{func(c *api.Cap) { c.E = 0 }, true},
		{func(c *api.Cap) { c.E = 53 }, false},
		{func(c *api.Cap) { c.E = -1 }, false},
		{func(c *api.Cap) { c.B = 16376 }, true},
		{func(c *api.Cap) { c.B = 16384 }, false},
		{func(c *api.Cap) { c.B = -8 }, false},
		{func(c *api.Cap) { c.B = 1 }, false},
		{func(c *api.Cap) { c.B = 2 }, false},
		{func(c *api.Cap) { c.B = 4 }, false},
		{func(c *api.Cap) { c.T = 4088 }, true},
		{func(c *api.Cap) { c.T = 4096 }, false},
		{func(c *api.Cap) { c.T = -8 }, false},
		{func(c *api.Cap) { c.T = 1 }, false},
		{func(c *api.Cap) { c.T = 2 }, false},
		{func(c *api.Cap) { c.T = 4 }, false},
		{func(c *api.Cap) { c.Big = false }, false},
		{func(c *api.Cap) { c.Big, c.E = false, 1 }, false},
		{func(c *api.Cap) { c.Big, c.E = false, -1 }, false},
		{func(c *api.Cap) { c.Big, c.E = false, 0 }, true},
		{func(c *api.Cap) { c.Big, c.E, c.B, c.T = false, 0, 16383, 4095 }, true},
		{func(c *api.Cap) { c.Big, c.E, c.B = false, 0, 16384 }, false},
		{func(c *api.Cap) { c.Big, c.E, c.T = false, 0, 4096 }, false},
		{func(c *api.Cap) { c.Big, c.E, c.B = false, 0, -1 }, false},
		{func(c *api.Cap) { c.Big, c.E, c.T = false, 0, -1 }, false},
	} {
		c := capenc.Number(9)
		x.turn(&c)
		if got := capenc.Right(c); got != x.want {
			t.Errorf("%d: Right(%+v) = %v", i, c, got)
		}
	}
}

// P4.1: right is what the document's words say, with one or two fields beyond their bits and about their ends.
func TestRightIsTrue(t *testing.T) {
	values := []int{math.MinInt, -1 << 32, -65536, -8, -1, 0, 1, 2, 4, 7, 8, 51, 52, 53, 63, 64, 4088, 4095, 4096, 16376, 16383, 16384, 65535, 65536, 262143, 262144, 1 << 32, 1<<32 + 8, math.MaxInt - 7, math.MaxInt}
	field := func(c *api.Cap, i int) *int {
		return []*int{&c.Perms, &c.Type, &c.Mode, &c.E, &c.B, &c.T}[i]
	}
	for _, big := range []bool{false, true} {
		for i := range 36 {
			for _, v := range values {
				for _, w := range values {
					c := api.Cap{Big: big}
					*field(&c, i/6), *field(&c, i%6) = v, w
					if got := capenc.Right(c); got != trueRight(c) {
						t.Fatalf("Right(%+v) = %v", c, got)
					}
				}
			}
		}
	}
	for _, c := range rights() {
		if !capenc.Right(c) {
			t.Fatalf("%+v is not right", c)
		}
	}
}

// examples are capabilities and their numbers: the chapter's, and each field about its ends.
func examples() map[api.Cap][2]uint64 {
	turned := func(turn func(c *api.Cap)) api.Cap {
		c := capenc.Number(0)
		turn(&c)
		return c
	}
	return map[api.Cap][2]uint64{
		capenc.Number(5): {5, 0},
		turned(func(c *api.Cap) { c.Tag, c.Perms, c.Addr = true, api.PLoad, 7 }): {7, 1 << 48},
		turned(func(c *api.Cap) { c.Big, c.E, c.B, c.T = false, 0, 3, 5 }):       {0, 1<<0 | 1<<1 | 1<<2 | 1<<14 | 1<<15 | 1<<26},
		turned(func(c *api.Cap) {}):                                                         {0, 0},
		capenc.Number(most):                                                                 {most, 0},
		capenc.Root(0, 9):                                                                   {9, 0xFFFF << 46},
		capenc.Root(1, most):                                                                {most, 0x1FFFF << 45},
		turned(func(c *api.Cap) { c.Perms = 1 }):                                            {0, 1 << 46},
		turned(func(c *api.Cap) { c.Perms = 1 << 15 }):                                      {0, 1 << 61},
		turned(func(c *api.Cap) { c.Mode = 1 }):                                             {0, 1 << 45},
		turned(func(c *api.Cap) { c.Type = 0 }):                                             {0, 0x3FFFF << 27},
		turned(func(c *api.Cap) { c.Type = api.TypeSentry }):                                {0, 1 << 27},
		turned(func(c *api.Cap) { c.Type = 1<<17 - 1 }):                                     {0, 1 << 44},
		turned(func(c *api.Cap) { c.E = 0 }):                                                {0, 4 | 6<<14},
		turned(func(c *api.Cap) { c.E = 1 }):                                                {0, 5 | 6<<14},
		turned(func(c *api.Cap) { c.E = 8 }):                                                {0, 4 | 7<<14},
		turned(func(c *api.Cap) { c.E = 51 }):                                               {0, 7},
		turned(func(c *api.Cap) { c.B = 8 }):                                                {0, 8},
		turned(func(c *api.Cap) { c.B = 0x3FF8 }):                                           {0, 0x3FF8},
		turned(func(c *api.Cap) { c.T = 8 }):                                                {0, 8 << 14},
		turned(func(c *api.Cap) { c.T = 0xFF8 }):                                            {0, 0xFF8 << 14},
		turned(func(c *api.Cap) { c.Big, c.E = false, 0 }):                                  {0, 4 | 6<<14 | 1<<26},
		turned(func(c *api.Cap) { c.Big, c.E, c.B, c.T = false, 0, 4, 6 }):                  {0, 1 << 26},
		turned(func(c *api.Cap) { c.Big, c.E, c.B, c.T = false, 0, 0x3FFF, 0xFFF }):         {0, 0x3FFB | 0xFF9<<14 | 1<<26},
		{Perms: 65535, Mode: 1, B: 0x3FFB, T: 0xFF9, Addr: 1}:                               {1, 1<<62 - 1},
		{Tag: true, Perms: 0x1234, Type: 5, E: 20, B: 0x1230, T: 0x458, Big: true, Addr: 2}: {2, 0x1234<<46 | 0x3FFFA<<27 | (0x458|2^6)<<14 | 0x1230},
	}
}

// P4.2, P4.3: the chapter's examples, the null, roots of both modes, and each field about its ends are packed, and unpacked, just so.
func TestExamples(t *testing.T) {
	for c, want := range examples() {
		if addr, meta := capenc.Pack(c); addr != want[0] || meta != want[1] {
			t.Errorf("Pack(%+v) = %#x, %#x, want %#x", c, addr, meta, want)
		}
		for upper := range uint64(4) {
			if got := capenc.Unpack(c.Tag, want[0], want[1]|upper<<62); got != c {
				t.Errorf("Unpack(%v, %#x, %#x with %d ahead) = %+v, want %+v", c.Tag, want[0], want[1], upper, got, c)
			}
		}
	}
}

// P4.2: what is packed is what the document says, digit by digit; the tag does not matter.
func TestPackIsTrue(t *testing.T) {
	for _, c := range rights() {
		want := trueMeta(c)
		addr, meta := capenc.Pack(c)
		if addr != c.Addr || meta != want {
			t.Fatalf("Pack(%+v) = %#x, %#x, want %#x", c, addr, meta, want)
		}
		c.Tag = true
		if a, m := capenc.Pack(c); a != addr || m != meta {
			t.Fatalf("Pack(%+v) = %#x, %#x, without the tag %#x, %#x", c, a, m, addr, meta)
		}
	}
}

// P4.3: what is unpacked is what the document says, digit by digit.
func TestUnpackIsTrue(t *testing.T) {
	for i, meta := range metas() {
		tag, addr := i%2 == 1, places()[i%9]
		if got, want := capenc.Unpack(tag, addr, meta), trueUnpacked(tag, addr, meta); got != want {
			t.Fatalf("Unpack(%v, %#x, %#x) = %+v, want %+v", tag, addr, meta, got, want)
		}
	}
}

// P4.3: an exponent above 52 is 52, and all else stays as it is; where it is not Big, these bits are the mantissas'.
func TestUnpackOfGreatExponents(t *testing.T) {
	for e := range 64 {
		parts := uint64(e%8 | e/8<<14)
		want := api.Cap{Tag: true, Perms: 2, Type: 3, Mode: 1, E: min(e, 52), B: 0x1238, T: 0x458, Big: true, Addr: 4}
		rest := uint64(2<<46 | 1<<45 | 3<<27 | 0x458<<14 | 0x1238)
		if got := capenc.Unpack(true, 4, (rest|1<<26|parts)^nullMeta); got != want {
			t.Errorf("with the exponent %d: %+v", e, got)
		}
		want.Big, want.E, want.B, want.T = false, 0, 0x1238|e%8, 0x458|e/8
		if got := capenc.Unpack(true, 4, (rest|parts)^nullMeta); got != want {
			t.Errorf("not Big, with the lowest bits %d: %+v", e, got)
		}
	}
}

// P4.4: what is packed is unpacked as it was, with its tag.
func TestPackedComesBack(t *testing.T) {
	for _, c := range rights() {
		for _, tag := range []bool{false, true} {
			c.Tag = tag
			addr, meta := capenc.Pack(c)
			if got := capenc.Unpack(tag, addr, meta); got != c {
				t.Fatalf("%+v comes back as %+v", c, got)
			}
		}
	}
}

// P4.4: what is unpacked is right, and is packed to the same numbers, where the exponent and the upper bits let it.
func TestUnpackedComesBack(t *testing.T) {
	same := 0
	for i, meta := range metas() {
		addr := places()[i%9]
		c := capenc.Unpack(i%2 == 0, addr, meta)
		if !capenc.Right(c) {
			t.Fatalf("of %#x comes %+v, which is not right", meta, c)
		}
		bits := meta ^ nullMeta
		great := bits>>26&1 == 1 && bits>>14&7*8+bits&7 > 52
		a, m := capenc.Pack(c)
		if a != addr || !great && m != meta&^(3<<62) || great && m == meta {
			t.Fatalf("%#x, %#x comes back as %#x, %#x", addr, meta, a, m)
		}
		if !great && meta>>62 == 0 {
			same++
		}
	}
	if same < 10000 {
		t.Fatalf("only %d could come back", same)
	}
}

// P4.5: unlike right capabilities with one tag have unlike numbers.
func TestApart(t *testing.T) {
	seen := map[[2]uint64]api.Cap{}
	unlike := map[api.Cap]int{}
	for _, c := range rights() {
		addr, meta := capenc.Pack(c)
		if other, ok := seen[[2]uint64{addr, meta}]; ok && other != c {
			t.Fatalf("%+v and %+v are both %#x, %#x", c, other, addr, meta)
		}
		seen[[2]uint64{addr, meta}] = c
		unlike[c]++
	}
	if len(seen) != len(unlike) || len(unlike) < 20000 {
		t.Fatalf("%d numbers of %d capabilities", len(seen), len(unlike))
	}
}

// P4.5: one turned field is enough to be apart.
func TestApartByOneField(t *testing.T) {
	for _, c := range rights() {
		addr, meta := capenc.Pack(c)
		for i, turn := range []func(c *api.Cap){
			func(c *api.Cap) { c.Perms ^= 1 << 9 }, func(c *api.Cap) { c.Type ^= 1 }, func(c *api.Cap) { c.Mode ^= 1 }, func(c *api.Cap) { c.B ^= 8 }, func(c *api.Cap) { c.T ^= 8 },
			func(c *api.Cap) { c.E = (c.E + 1) % 53 }, func(c *api.Cap) { c.Big = !c.Big }, func(c *api.Cap) { c.Addr ^= 1 << 63 },
		} {
			other := c
			turn(&other)
			if !capenc.Right(other) {
				continue
			}
			if a, m := capenc.Pack(other); a == addr && m == meta {
				t.Fatalf("%d: %+v and %+v are both %#x, %#x", i, c, other, a, m)
			}
		}
	}
}

// P4.6: a number is what noughts are, without a tag.
func TestNumberIsNoughts(t *testing.T) {
	for _, n := range append(places(), mixed(1000)...) {
		if got, want := capenc.Unpack(false, n, 0), capenc.Number(n); got != want {
			t.Fatalf("Unpack(false, %#x, 0) = %+v, want %+v", n, got, want)
		}
		if addr, meta := capenc.Pack(capenc.Number(n)); addr != n || meta != 0 {
			t.Fatalf("Number(%#x) is packed to %#x, %#x", n, addr, meta)
		}
	}
}

// R1: fields that no capability has make no call panic, and are told not to be right.
func TestWrongFieldsEnd(t *testing.T) {
	wrongs := []int{math.MinInt, -1 << 32, -65, -8, -1, 53, 64, 256, 1 << 12, 1 << 14, 1 << 16, 1 << 18, 1 << 32, math.MaxInt}
	for _, v := range wrongs {
		for _, w := range wrongs {
			for _, big := range []bool{false, true} {
				for _, c := range []api.Cap{
					{Perms: v, Type: w, Mode: v, E: w, B: v, T: w, Big: big, Addr: most},
					{Tag: true, E: v, B: w, T: v, Big: big},
					{Perms: w, Type: v, Mode: w, Big: big, E: v},
				} {
					if recovered(func() { capenc.Pack(c) }) || recovered(func() { capenc.Right(c) }) {
						t.Fatalf("%+v panics", c)
					}
					if capenc.Right(c) {
						t.Fatalf("%+v is right", c)
					}
				}
			}
		}
	}
}
