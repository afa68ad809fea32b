package muldiv_test

import (
	"math"
	"math/big"
	"testing"

	"ravelin/api"
	"ravelin/muldiv"
)

const (
	most    = math.MaxUint64
	least   = 1 << 63
	least32 = 1<<64 - 1<<31 // the least number of 32 bits, extended
)

// edges are numbers at which a sign, a width or half of one turns over, and some that are ordinary.
func edges() []uint64 {
	list := []uint64{0, 3, 7, 10, 1000, 0x0123456789ABCDEF, 0xFEDCBA9876543210, 0x1122334485868788, 0x5A5A5A5AA5A5A5A5}
	for _, shift := range []uint{0, 1, 15, 16, 31, 32, 33, 48, 62, 63} {
		power := uint64(1) << shift
		list = append(list, power-1, power, power+1, -power, -power-1)
	}
	return list
}

// highs are bits above the lowest 32, on which nothing of 32 bits may hang.
func highs() []uint64 {
	return []uint64{1 << 32, 1 << 63, 0xA5A5A5A5 << 32, most - 1<<32 + 1}
}

// wrongs are numbers that are no operation of any kind.
func wrongs() []int {
	return []int{math.MinInt, math.MinInt + 4, -1 << 32, -256, -28, -8, -4, -2, -1, 29, 30, 31, 32, 64, 256, 1 << 32, 1<<32 + 4, math.MaxInt - 1, math.MaxInt}
}

// wordFns are the operations of Do that are also of 32 bits.
func wordFns() []int {
	return []int{api.MMul, api.MDiv, api.MDivu, api.MRem, api.MRemu}
}

// amoFns are the operations of Amo.
func amoFns() []int {
	return []int{api.XAdd, api.XSwap, api.XXor, api.XOr, api.XAnd, api.XMin, api.XMax, api.XMinu, api.XMaxu}
}

// power is 2 to the bits.
func power(bits uint) *big.Int { return new(big.Int).Lsh(big.NewInt(1), bits) }

// unsigned is the true number that the lowest bits of v are.
func unsigned(v uint64, bits uint) *big.Int {
	n := new(big.Int).SetUint64(v)
	return n.Mod(n, power(bits))
}

// signed is the true number that the lowest bits of v are in two's complement.
func signed(v uint64, bits uint) *big.Int {
	n := unsigned(v, bits)
	if n.Bit(int(bits)-1) == 1 {
		n.Sub(n, power(bits))
	}
	return n
}

// low is a true number modulo 2 to the bits, with noughts above.
func low(n *big.Int, bits uint) uint64 {
	return new(big.Int).Mod(n, power(bits)).Uint64()
}

// extended is a true number modulo 2 to the bits, with all bits above being like its highest.
func extended(n *big.Int, bits uint) uint64 {
	return low(signed(low(n, bits), bits), 64)
}

// trueDo is what the document says of an operation of Do, worked out with true numbers.
func trueDo(fn int, bits uint, a, b uint64) uint64 {
	x, y := unsigned(a, bits), unsigned(b, bits)
	sx, sy := signed(a, bits), signed(b, bits)
	n := new(big.Int)
	switch fn {
	case api.MMul:
		n.Mul(x, y)
	case api.MMulh:
		n.Rsh(n.Mul(sx, sy), bits)
	case api.MMulhsu:
		n.Rsh(n.Mul(sx, y), bits)
	case api.MMulhu:
		n.Rsh(n.Mul(x, y), bits)
	case api.MDiv, api.MDivu:
		if fn == api.MDiv {
			x, y = sx, sy
		}
		n.SetInt64(-1)
		if y.Sign() != 0 {
			n.Quo(x, y)
		}
	case api.MRem, api.MRemu:
		if fn == api.MRem {
			x, y = sx, sy
		}
		n.Set(x)
		if y.Sign() != 0 {
			n.Rem(x, y)
		}
	}
	return extended(n, bits)
}

// trueAmo is what the document says of an operation of Amo, worked out with true numbers.
func trueAmo(fn int, bits uint, old, v uint64) uint64 {
	x, y := unsigned(old, bits), unsigned(v, bits)
	below := signed(old, bits).Cmp(signed(v, bits)) < 0
	belowU := x.Cmp(y) < 0
	n := new(big.Int)
	switch fn {
	case api.XAdd:
		n.Add(x, y)
	case api.XSwap:
		n.Set(y)
	case api.XXor:
		n.Xor(x, y)
	case api.XOr:
		n.Or(x, y)
	case api.XAnd:
		n.And(x, y)
	case api.XMin:
		n.Set(either(below, x, y))
	case api.XMax:
		n.Set(either(below, y, x))
	case api.XMinu:
		n.Set(either(belowU, x, y))
	case api.XMaxu:
		n.Set(either(belowU, y, x))
	}
	return low(n, bits)
}

// either is the first number, if it is so, else the second.
func either(so bool, x, y *big.Int) *big.Int {
	if so {
		return x
	}
	return y
}

// do is what Do makes of an operation that there is.
func do(t *testing.T, fn int, word bool, a, b uint64) uint64 {
	t.Helper()
	v, ok := muldiv.Do(fn, word, a, b)
	if !ok {
		t.Fatalf("Do(%d, %v, %#x, %#x) is none", fn, word, a, b)
	}
	return v
}

// P2.1: what the chapter's examples say, and what each operation is at its edges.
func TestDoExamples(t *testing.T) {
	for _, x := range []struct {
		fn         int
		word       bool
		a, b, want uint64
		ok         bool
	}{
		{api.MMulh, false, most, most, 0, true},
		{api.MMulhu, false, most, most, most - 1, true},
		{api.MDiv, false, most - 6, 2, most - 2, true},
		{api.MRem, false, most - 6, 2, most, true},
		{api.MDiv, false, 7, 0, most, true},
		{api.MRem, false, 7, 0, 7, true},
		{api.MDiv, false, least, most, least, true},
		{api.MRem, false, least, most, 0, true},
		{api.MDivu, true, 1<<32 + 8, 2, 4, true},
		{api.MMulh, true, 1<<32 + 8, 2, 0, false},

		{api.MMul, false, 6, 7, 42, true},
		{api.MMul, false, 1 << 32, 1 << 32, 0, true},
		{api.MMul, false, most, 5, most - 4, true},
		{api.MMulh, false, 1 << 32, 1 << 33, 2, true},
		{api.MMulh, false, least, least, 1 << 62, true},
		{api.MMulh, false, most, 1, most, true},
		{api.MMulhsu, false, most, most, most, true},
		{api.MMulhsu, false, 1, most, 0, true},
		{api.MMulhsu, false, 2, most, 1, true},
		{api.MMulhu, false, 1 << 63, 2, 1, true},
		{api.MMulhu, false, 1<<63 - 1, 2, 0, true},
		{api.MDiv, false, 7, most - 1, most - 2, true},
		{api.MDiv, false, most - 6, most - 1, 3, true},
		{api.MDiv, false, 0, 0, most, true},
		{api.MDiv, false, least, 0, most, true},
		{api.MDivu, false, 7, 2, 3, true},
		{api.MDivu, false, least, most, 0, true},
		{api.MDivu, false, 7, 0, most, true},
		{api.MRem, false, 7, most - 1, 1, true},
		{api.MRem, false, most - 6, most - 1, most, true},
		{api.MRem, false, least, 0, least, true},
		{api.MRemu, false, least, most, least, true},
		{api.MRemu, false, 7, 0, 7, true},

		{api.MMul, true, 1 << 16, 1 << 15, least32, true},
		{api.MMul, true, 1 << 16, 1 << 16, 0, true},
		{api.MDiv, true, 1<<32 - 7, 2, most - 2, true},
		{api.MDiv, true, 1 << 31, most, least32, true},
		{api.MDiv, true, 5, 1 << 32, most, true},
		{api.MDivu, true, 1<<32 - 2, 1, most - 1, true},
		{api.MDivu, true, 5, 1 << 32, most, true},
		{api.MDivu, true, 1 << 31, most, 0, true},
		{api.MRem, true, 1<<32 - 7, 2, most, true},
		{api.MRem, true, 1 << 31, most, 0, true},
		{api.MRem, true, 1<<32 + 7, 1 << 32, 7, true},
		{api.MRemu, true, 1<<31 + 5, 0, least32 + 5, true},
		{api.MRemu, true, 1 << 31, most, least32, true},
	} {
		if got, ok := muldiv.Do(x.fn, x.word, x.a, x.b); got != x.want || ok != x.ok {
			t.Errorf("Do(%d, %v, %#x, %#x) = %#x, %v, want %#x, %v", x.fn, x.word, x.a, x.b, got, ok, x.want, x.ok)
		}
	}
}

// P2.1: each operation, of 64 bits and of 32, at every two edges, is what true numbers say.
func TestDoIsTrue(t *testing.T) {
	for _, a := range edges() {
		for _, b := range edges() {
			for fn := api.MMul; fn <= api.MRemu; fn++ {
				if got := do(t, fn, false, a, b); got != trueDo(fn, 64, a, b) {
					t.Fatalf("Do(%d, false, %#x, %#x) = %#x, want %#x", fn, a, b, got, trueDo(fn, 64, a, b))
				}
			}
			for _, fn := range wordFns() {
				if got := do(t, fn, true, a, b); got != trueDo(fn, 32, a, b) {
					t.Fatalf("Do(%d, true, %#x, %#x) = %#x, want %#x", fn, a, b, got, trueDo(fn, 32, a, b))
				}
			}
		}
	}
}

// P2.1: what is no operation is 0 and false; nor are there upper halves of 32 bits.
func TestDoWrong(t *testing.T) {
	for _, fn := range append(wrongs(), 8, 9, 12, 16, 20, 24, 28) {
		for _, word := range []bool{false, true} {
			if got, ok := muldiv.Do(fn, word, most, 3); got != 0 || ok {
				t.Errorf("Do(%d, %v) = %#x, %v, want 0, false", fn, word, got, ok)
			}
		}
	}
	for _, fn := range []int{api.MMulh, api.MMulhsu, api.MMulhu} {
		for _, b := range edges() {
			if got, ok := muldiv.Do(fn, true, most, b); got != 0 || ok {
				t.Errorf("Do(%d, true, %#x, %#x) = %#x, %v, want 0, false", fn, uint64(most), b, got, ok)
			}
		}
	}
}

// P2.2: what the chapter's examples say, and what each operation is of small numbers, and at its edges.
func TestAmoExamples(t *testing.T) {
	for _, x := range []struct {
		fn, size     int
		old, v, want uint64
	}{
		{api.XMin, 4, 1, 1<<32 - 1, 1<<32 - 1},
		{api.XMinu, 4, 1, 1<<32 - 1, 1},

		{api.XAdd, 8, 40, 2, 42},
		{api.XAdd, 8, most, 2, 1},
		{api.XAdd, 8, 1<<32 - 1, 2, 1<<32 + 1},
		{api.XAdd, 4, 1<<32 - 1, 2, 1},
		{api.XAdd, 4, 1<<31 - 1, 1, 1 << 31},
		{api.XSwap, 8, 1, 1<<32 + 5, 1<<32 + 5},
		{api.XSwap, 4, 1, 1<<32 + 5, 5},
		{api.XSwap, 4, 1, most, 1<<32 - 1},
		{api.XXor, 8, 12, 10, 6},
		{api.XXor, 4, most, 1, 1<<32 - 2},
		{api.XOr, 8, 12, 10, 14},
		{api.XOr, 4, most, 1, 1<<32 - 1},
		{api.XAnd, 8, 12, 10, 8},
		{api.XAnd, 4, most, most, 1<<32 - 1},
		{api.XMin, 8, most, 1, most},
		{api.XMin, 8, 1, 1<<32 - 1, 1},
		{api.XMin, 8, least, 1<<63 - 1, least},
		{api.XMax, 8, most, 1, 1},
		{api.XMax, 8, 1, 1<<32 - 1, 1<<32 - 1},
		{api.XMax, 4, 1, 1<<32 - 1, 1},
		{api.XMax, 4, 1 << 40, 1 << 31, 0},
		{api.XMinu, 8, most, 1, 1},
		{api.XMinu, 4, 1 << 40, 1 << 31, 0},
		{api.XMaxu, 8, most, 1, most},
		{api.XMaxu, 4, 1, 1<<32 - 1, 1<<32 - 1},
		{api.XMaxu, 4, 1 << 40, 1 << 31, 1 << 31},
	} {
		if got, ok := muldiv.Amo(x.fn, x.size, x.old, x.v); got != x.want || !ok {
			t.Errorf("Amo(%d, %d, %#x, %#x) = %#x, %v, want %#x, true", x.fn, x.size, x.old, x.v, got, ok, x.want)
		}
	}
}

// P2.2: each operation, of both sizes, at every two edges, is what true numbers say.
func TestAmoIsTrue(t *testing.T) {
	for _, fn := range amoFns() {
		for _, old := range edges() {
			for _, v := range edges() {
				for _, size := range []int{4, 8} {
					want := trueAmo(fn, uint(8*size), old, v)
					if got, ok := muldiv.Amo(fn, size, old, v); got != want || !ok {
						t.Fatalf("Amo(%d, %d, %#x, %#x) = %#x, %v, want %#x, true", fn, size, old, v, got, ok, want)
					}
				}
			}
		}
	}
}

// P2.2: what is no operation is 0 and false, of both sizes: also every number between those that are.
func TestAmoWrongFn(t *testing.T) {
	is := map[int]int{}
	for _, fn := range amoFns() {
		is[fn] = 1
	}
	list := wrongs()
	for fn := 0; fn < 64; fn++ {
		if is[fn] == 0 {
			list = append(list, fn)
		}
	}
	for _, fn := range list {
		for _, size := range []int{4, 8} {
			if got, ok := muldiv.Amo(fn, size, most, 3); got != 0 || ok {
				t.Errorf("Amo(%d, %d) = %#x, %v, want 0, false", fn, size, got, ok)
			}
		}
	}
}

// P2.2: of a size that is neither 4 nor 8 all is 0 and false.
func TestAmoWrongSize(t *testing.T) {
	for _, size := range append(wrongs(), 0, 1, 2, 3, 5, 6, 7, 9, 12, 16) {
		for _, fn := range amoFns() {
			if got, ok := muldiv.Amo(fn, size, most, 3); got != 0 || ok {
				t.Errorf("Amo(%d, %d) = %#x, %v, want 0, false", fn, size, got, ok)
			}
		}
	}
}

// P2.3: the quotient times b and what is left over are a; what is left over is nearer to 0 than b, unless b is 0.
func TestRestIsLeftOver(t *testing.T) {
	for _, bits := range []uint{32, 64} {
		word := bits == 32
		for _, a := range edges() {
			for _, b := range edges() {
				for _, x := range []struct {
					div, rem int
					number   func(uint64, uint) *big.Int
				}{{api.MDiv, api.MRem, signed}, {api.MDivu, api.MRemu, unsigned}} {
					quotient, rest := do(t, x.div, word, a, b), do(t, x.rem, word, a, b)
					if low(new(big.Int).SetUint64(quotient*b+rest), bits) != low(unsigned(a, bits), bits) {
						t.Fatalf("by %d of %d bits: %#x * %#x + %#x is not %#x", x.div, bits, quotient, b, rest, a)
					}
					left, by := x.number(rest, bits), x.number(b, bits)
					if by.Sign() != 0 && left.CmpAbs(by) >= 0 {
						t.Fatalf("by %d of %d bits: of %#x by %#x %v is left over", x.rem, bits, a, b, left)
					}
				}
			}
		}
	}
}

// P2.4: the upper halves with signs are the one without, less b, if a is below 0, and, for MMulh, less a, if b is.
func TestHalvesHangTogether(t *testing.T) {
	for _, a := range edges() {
		for _, b := range edges() {
			mixed := do(t, api.MMulhu, false, a, b)
			if int64(a) < 0 {
				mixed -= b
			}
			both := mixed
			if int64(b) < 0 {
				both -= a
			}
			if got := do(t, api.MMulhsu, false, a, b); got != mixed {
				t.Fatalf("MMulhsu of %#x, %#x is %#x, want %#x", a, b, got, mixed)
			}
			if got := do(t, api.MMulh, false, a, b); got != both {
				t.Fatalf("MMulh of %#x, %#x is %#x, want %#x", a, b, got, both)
			}
		}
	}
}

// P2.5: of 32 bits a product, a quotient, what is left over hang on the lowest 32 bits alone, and are extended.
func TestNarrowDo(t *testing.T) {
	for _, fn := range wordFns() {
		for _, a := range edges() {
			for _, b := range edges() {
				want := do(t, fn, true, a, b)
				if want != uint64(int32(want)) {
					t.Fatalf("Do(%d, true, %#x, %#x) = %#x is not extended", fn, a, b, want)
				}
				for _, high := range highs() {
					first, second := do(t, fn, true, a^high, b), do(t, fn, true, a, b^high)
					if first != want || second != want {
						t.Fatalf("Do(%d, true, %#x, %#x) = %#x, but %#x, %#x with other bits above", fn, a, b, want, first, second)
					}
				}
			}
		}
	}
}

// P2.5: of 4 bytes what an atomic operation leaves hangs on the lowest 32 bits alone, and has noughts above.
func TestNarrowAmo(t *testing.T) {
	for _, fn := range amoFns() {
		for _, old := range edges() {
			for _, v := range edges() {
				want, _ := muldiv.Amo(fn, 4, old, v)
				if want>>32 != 0 {
					t.Fatalf("Amo(%d, 4, %#x, %#x) = %#x has bits above", fn, old, v, want)
				}
				for _, high := range highs() {
					first, _ := muldiv.Amo(fn, 4, old^high, v)
					second, _ := muldiv.Amo(fn, 4, old, v^high)
					if first != want || second != want {
						t.Fatalf("Amo(%d, 4, %#x, %#x) = %#x, but %#x, %#x with other bits above", fn, old, v, want, first, second)
					}
				}
			}
		}
	}
}
