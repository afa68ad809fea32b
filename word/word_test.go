package word_test

import (
	"math"
	"math/big"
	"testing"

	"ravelin/api"
	"ravelin/word"
)

const most = math.MaxUint64

// edges are numbers at which a carry, a sign or a width turns over, and some that are ordinary.
func edges() []uint64 {
	list := []uint64{0, 5, 12, 1000, 0x0123456789ABCDEF, 0xFEDCBA9876543210, 0x1122334485868788, 0x5A5A5A5AA5A5A5A5}
	for _, shift := range []uint{0, 1, 5, 6, 7, 8, 15, 16, 31, 32, 33, 62, 63} {
		power := uint64(1) << shift
		list = append(list, power-1, power, power+1, -power, -power-1)
	}
	return list
}

// wrongs are numbers that are neither an operation, nor a branch, nor a width.
func wrongs() []int {
	return []int{math.MinInt, math.MinInt + 9, -1 << 32, -256, -8, -7, -2, -1, 10, 11, 15, 16, 17, 64, 256, 1 << 32, 1<<32 + 8, math.MaxInt - 1, math.MaxInt}
}

// signed is the true number that the lowest bits of v are in two's complement.
func signed(v uint64, bits uint) *big.Int {
	n := unsigned(v, bits)
	if n.Bit(int(bits)-1) == 1 {
		n.Sub(n, new(big.Int).Lsh(big.NewInt(1), bits))
	}
	return n
}

// unsigned is the true number that the lowest bits of v are.
func unsigned(v uint64, bits uint) *big.Int {
	n := new(big.Int).SetUint64(v)
	return n.Mod(n, new(big.Int).Lsh(big.NewInt(1), bits))
}

// reduced is a true number, modulo 2 to the bits, as a register holds it: extended by its sign.
func reduced(n *big.Int, bits uint) uint64 {
	low := new(big.Int).Mod(n, new(big.Int).Lsh(big.NewInt(1), bits)).Uint64()
	return new(big.Int).Mod(signed(low, bits), new(big.Int).Lsh(big.NewInt(1), 64)).Uint64()
}

// truth is what the document says of an operation, worked out with true numbers.
func truth(fn int, bits uint, a, b uint64) uint64 {
	x, y := unsigned(a, bits), unsigned(b, bits)
	sx, sy := signed(a, bits), signed(b, bits)
	by := uint(b % uint64(bits))
	n := new(big.Int)
	switch fn {
	case api.AAdd:
		n.Add(x, y)
	case api.ASub:
		n.Sub(x, y)
	case api.ASll:
		n.Mul(x, new(big.Int).Lsh(big.NewInt(1), by))
	case api.ASrl:
		n.Rsh(x, by)
	case api.ASra:
		n.Rsh(sx, by)
	case api.ASlt:
		n.SetInt64(int64(max(0, -sx.Cmp(sy))))
	case api.ASltu:
		n.SetInt64(int64(max(0, -x.Cmp(y))))
	case api.AXor:
		n.Xor(x, y)
	case api.AOr:
		n.Or(x, y)
	case api.AAnd:
		n.And(x, y)
	}
	return reduced(n, bits)
}

// P1.1: what the chapter's examples say, and what each operation is of small numbers.
func TestAluExamples(t *testing.T) {
	for _, x := range []struct {
		fn         int
		word       bool
		a, b, want uint64
		ok         bool
	}{
		{api.AAdd, true, 1<<31 - 1, 1, 1<<64 - 1<<31, true},
		{api.ASra, false, 1 << 63, 63, most, true},
		{api.ASlt, false, most, 0, 1, true},
		{api.ASltu, false, most, 0, 0, true},
		{api.ASrl, true, 1<<32 + 8, 35, 1, true},
		{api.AAnd, true, 1<<32 + 8, 35, 0, false},
		{api.AAdd, false, 40, 2, 42, true},
		{api.AAdd, false, most, 1, 0, true},
		{api.ASub, false, 40, 2, 38, true},
		{api.ASub, false, 0, 1, most, true},
		{api.ASub, true, 0, 1, most, true},
		{api.ASll, false, 3, 2, 12, true},
		{api.ASll, false, 3, 66, 12, true},
		{api.ASll, false, 1, 32, 1 << 32, true},
		{api.ASll, true, 1, 32, 1, true},
		{api.ASll, true, 1, 31, 1<<64 - 1<<31, true},
		{api.ASrl, false, 1 << 63, 63, 1, true},
		{api.ASrl, true, 1 << 31, 0, 1<<64 - 1<<31, true},
		{api.ASrl, true, 1 << 31, 31, 1, true},
		{api.ASra, false, 12, 2, 3, true},
		{api.ASra, true, 1 << 31, 31, most, true},
		{api.ASra, true, 1 << 32, 1, 0, true},
		{api.ASlt, false, 0, most, 0, true},
		{api.ASlt, false, 7, 7, 0, true},
		{api.ASltu, false, 0, most, 1, true},
		{api.ASltu, false, 7, 7, 0, true},
		{api.AXor, false, 12, 10, 6, true},
		{api.AOr, false, 12, 10, 14, true},
		{api.AAnd, false, 12, 10, 8, true},
	} {
		if got, ok := word.Alu(x.fn, x.word, x.a, x.b); got != x.want || ok != x.ok {
			t.Errorf("Alu(%d, %v, %#x, %#x) = %#x, %v, want %#x, %v", x.fn, x.word, x.a, x.b, got, ok, x.want, x.ok)
		}
	}
}

// P1.1: each operation, at every two edges, is what true numbers say.
func TestAluIsTrue(t *testing.T) {
	ofWord := map[int]int{api.AAdd: 1, api.ASub: 1, api.ASll: 1, api.ASrl: 1, api.ASra: 1}
	for fn := 0; fn <= 9; fn++ {
		for _, a := range edges() {
			for _, b := range edges() {
				if got, ok := word.Alu(fn, false, a, b); got != truth(fn, 64, a, b) || !ok {
					t.Fatalf("Alu(%d, false, %#x, %#x) = %#x, %v, want %#x", fn, a, b, got, ok, truth(fn, 64, a, b))
				}
				got, ok := word.Alu(fn, true, a, b)
				if ofWord[fn] == 0 {
					if got != 0 || ok {
						t.Fatalf("Alu(%d, true, %#x, %#x) = %#x, %v, want 0, false", fn, a, b, got, ok)
					}
				} else if got != truth(fn, 32, a, b) || !ok {
					t.Fatalf("Alu(%d, true, %#x, %#x) = %#x, %v, want %#x", fn, a, b, got, ok, truth(fn, 32, a, b))
				}
			}
		}
	}
}

// P1.1: every distance of a shift, also beyond the width.
func TestAluEveryShift(t *testing.T) {
	for _, fn := range []int{api.ASll, api.ASrl, api.ASra} {
		for _, a := range edges() {
			for by := uint64(0); by < 200; by++ {
				if got, _ := word.Alu(fn, false, a, by); got != truth(fn, 64, a, by) {
					t.Fatalf("Alu(%d, false, %#x, %d) = %#x", fn, a, by, got)
				}
				if got, _ := word.Alu(fn, true, a, by); got != truth(fn, 32, a, by) {
					t.Fatalf("Alu(%d, true, %#x, %d) = %#x", fn, a, by, got)
				}
			}
		}
	}
}

// P1.1: what is no operation is 0 and false, of both widths.
func TestAluWrong(t *testing.T) {
	for _, fn := range wrongs() {
		for _, wide := range []bool{false, true} {
			if got, ok := word.Alu(fn, wide, most, 3); got != 0 || ok {
				t.Errorf("Alu(%d, %v) = %#x, %v", fn, wide, got, ok)
			}
		}
	}
	for _, fn := range []int{api.ASlt, api.ASltu, api.AXor, api.AOr, api.AAnd} {
		if got, ok := word.Alu(fn, true, 3, 5); got != 0 || ok {
			t.Errorf("Alu(%d, true) = %#x, %v", fn, got, ok)
		}
	}
}

// P1.2: each branch, at every two edges, is what true numbers say.
func TestBranchIsTrue(t *testing.T) {
	for _, a := range edges() {
		for _, b := range edges() {
			above := unsigned(a, 64).Cmp(unsigned(b, 64))
			signedAbove := signed(a, 64).Cmp(signed(b, 64))
			for fn, want := range map[int]int{
				api.BEq:  one(above == 0),
				api.BNe:  one(above != 0),
				api.BLt:  one(signedAbove < 0),
				api.BGe:  one(signedAbove >= 0),
				api.BLtu: one(above < 0),
				api.BGeu: one(above >= 0),
			} {
				if got, ok := word.Branch(fn, a, b); one(got) != want || !ok {
					t.Fatalf("Branch(%d, %#x, %#x) = %v, %v", fn, a, b, got, ok)
				}
			}
		}
	}
}

// P1.2: branches of small numbers, and what is none.
func TestBranchExamples(t *testing.T) {
	for _, x := range []struct {
		fn       int
		a, b     uint64
		want, ok bool
	}{
		{api.BEq, 7, 7, true, true},
		{api.BEq, 7, 7 + 1<<32, false, true},
		{api.BNe, 7, 7, false, true},
		{api.BNe, 7, 8, true, true},
		{api.BLt, most, 0, true, true},
		{api.BLt, 7, 7, false, true},
		{api.BLt, 1 << 63, 1<<63 - 1, true, true},
		{api.BGe, most, 0, false, true},
		{api.BGe, 7, 7, true, true},
		{api.BLtu, most, 0, false, true},
		{api.BLtu, 7, 7, false, true},
		{api.BGeu, most, 0, true, true},
		{api.BGeu, 7, 7, true, true},
		{2, 7, 7, false, false},
		{3, 7, 7, false, false},
		{8, 7, 7, false, false},
		{9, 7, 7, false, false},
	} {
		if got, ok := word.Branch(x.fn, x.a, x.b); got != x.want || ok != x.ok {
			t.Errorf("Branch(%d, %#x, %#x) = %v, %v, want %v, %v", x.fn, x.a, x.b, got, ok, x.want, x.ok)
		}
	}
	for _, fn := range wrongs() {
		for _, b := range []uint64{6, 7, 8} {
			if got, ok := word.Branch(fn, 7, b); got || ok {
				t.Errorf("Branch(%d, 7, %d) = %v, %v", fn, b, got, ok)
			}
		}
	}
}

// P1.3: how many bytes each width has, and that others have none.
func TestSize(t *testing.T) {
	for _, x := range []struct{ width, want int }{
		{api.Byte, 1}, {api.Half, 2}, {api.Wide, 4}, {api.Long, 8},
		{api.ByteU, 1}, {api.HalfU, 2}, {api.WideU, 4}, {api.Quad, 16},
		{8, 0}, {9, 0},
	} {
		if got := word.Size(x.width); got != x.want {
			t.Errorf("Size(%d) = %d, want %d", x.width, got, x.want)
		}
	}
	for _, width := range wrongs() {
		if got := word.Size(width); got != 0 {
			t.Errorf("Size(%d) = %d, want 0", width, got)
		}
	}
}

// P1.3: both sides of each width's sign, and the bits above that are dropped.
func TestExtendExamples(t *testing.T) {
	for _, x := range []struct {
		v     uint64
		width int
		want  uint64
	}{
		{0x80, api.Byte, 1<<64 - 128},
		{0x80, api.ByteU, 128},
		{0x7F, api.Byte, 0x7F},
		{0xFFFFFFFFFFFFFF7F, api.Byte, 0x7F},
		{0x1FF, api.ByteU, 0xFF},
		{0x8000, api.Half, 1<<64 - 1<<15},
		{0x17FFF, api.Half, 0x7FFF},
		{0x18000, api.HalfU, 0x8000},
		{0x80000000, api.Wide, 1<<64 - 1<<31},
		{0x17FFFFFFF, api.Wide, 0x7FFFFFFF},
		{0x180000000, api.WideU, 0x80000000},
		{0x8182838485868788, api.Long, 0x8182838485868788},
		{0x8182838485868788, api.Quad, 0x8182838485868788},
	} {
		if got := word.Extend(x.v, x.width); got != x.want {
			t.Errorf("Extend(%#x, %d) = %#x, want %#x", x.v, x.width, got, x.want)
		}
	}
}

// P1.3: each width, at every edge, is what true numbers say; a width that is none leaves all as it is.
func TestExtendIsTrue(t *testing.T) {
	for _, v := range edges() {
		for i, bits := range []uint{8, 16, 32} {
			if got := word.Extend(v, i); got != reduced(new(big.Int).SetUint64(v), bits) {
				t.Errorf("Extend(%#x, %d) = %#x", v, i, got)
			}
			if got := word.Extend(v, i+4); got != unsigned(v, bits).Uint64() {
				t.Errorf("Extend(%#x, %d) = %#x", v, i+4, got)
			}
		}
		for _, width := range append(wrongs(), api.Long, api.Quad, 8, 9) {
			if got := word.Extend(v, width); got != v {
				t.Errorf("Extend(%#x, %d) = %#x", v, width, got)
			}
		}
	}
}

// P1.4: what is added is taken away again.
func TestAddedIsTakenAway(t *testing.T) {
	for _, a := range edges() {
		for _, b := range edges() {
			sum, _ := word.Alu(api.AAdd, false, a, b)
			if back, ok := word.Alu(api.ASub, false, sum, b); back != a || !ok {
				t.Fatalf("%#x + %#x - %#x = %#x", a, b, b, back)
			}
			sum, _ = word.Alu(api.AAdd, true, a, b)
			if back, ok := word.Alu(api.ASub, true, sum, b); back != word.Extend(a, api.Wide) || !ok {
				t.Fatalf("of 32 bits: %#x + %#x - %#x = %#x", a, b, b, back)
			}
		}
	}
}

// P1.4: what is of 32 bits hangs on the lowest 32 bits alone, and is extended already.
func TestWordHangsOnLowBits(t *testing.T) {
	for _, fn := range []int{api.AAdd, api.ASub, api.ASll, api.ASrl, api.ASra} {
		for _, a := range edges() {
			for _, b := range edges() {
				want, _ := word.Alu(fn, true, a, b)
				if want != word.Extend(want, api.Wide) {
					t.Fatalf("Alu(%d, true, %#x, %#x) = %#x is not extended", fn, a, b, want)
				}
				for _, high := range []uint64{1 << 32, 1 << 63, 0xA5A5A5A5 << 32, most - 1<<32 + 1} {
					if got, _ := word.Alu(fn, true, a^high, b); got != want {
						t.Fatalf("Alu(%d, true, %#x, %#x) = %#x, want %#x", fn, a^high, b, got, want)
					}
					if got, _ := word.Alu(fn, true, a, b^high); got != want {
						t.Fatalf("Alu(%d, true, %#x, %#x) = %#x, want %#x", fn, a, b^high, got, want)
					}
				}
			}
		}
	}
}

// P1.4: of any two numbers just one of below, alike, above is so, with a sign and without, as branches and as operations tell it.
func TestJustOneIsSo(t *testing.T) {
	for _, a := range edges() {
		for _, b := range edges() {
			alike, _ := word.Branch(api.BEq, a, b)
			for _, x := range []struct{ branch, fn int }{{api.BLt, api.ASlt}, {api.BLtu, api.ASltu}} {
				below, _ := word.Branch(x.branch, a, b)
				above, _ := word.Branch(x.branch, b, a)
				if one(below)+one(alike)+one(above) != 1 {
					t.Fatalf("%#x, %#x by %d: below %v, alike %v, above %v", a, b, x.branch, below, alike, above)
				}
				lower, _ := word.Alu(x.fn, false, a, b)
				higher, _ := word.Alu(x.fn, false, b, a)
				if lower+uint64(one(alike))+higher != 1 {
					t.Fatalf("%#x, %#x by %d: below %d, alike %v, above %d", a, b, x.fn, lower, alike, higher)
				}
			}
		}
	}
}

// one is 1 for what is so, else 0.
func one(so bool) int {
	if so {
		return 1
	}
	return 0
}
