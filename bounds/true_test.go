package bounds_test

import (
	"math/big"

	"ravelin/api"
)

// What the document's words say of bounds, worked out with true numbers.

// power is 2 to the n.
func power(n int) *big.Int { return new(big.Int).Lsh(big.NewInt(1), uint(n)) }

// number is a uint64 as a true number.
func number(v uint64) *big.Int { return new(big.Int).SetUint64(v) }

// sum is the sum of two true numbers.
func sum(a, b *big.Int) *big.Int { return new(big.Int).Add(a, b) }

// modulo is n modulo 2 to the bits; one below 0 is taken up.
func modulo(n *big.Int, bits int) *big.Int { return new(big.Int).Mod(n, power(bits)) }

// top is a range's top as a true number.
func top(r api.Range) *big.Int {
	n := number(r.Top)
	if r.Over {
		n.Add(n, power(64))
	}
	return n
}

// end is the true number behind n bytes from a place on.
func end(at, n uint64) *big.Int { return sum(number(at), number(n)) }

// one is 1 for what is so, else 0.
func one(so bool) int {
	if so {
		return 1
	}
	return 0
}

// trueT is T of 14 bits.
func trueT(c api.Cap) int {
	return c.T + (c.B/4096+one(c.T < c.B%4096)+one(c.Big))%4*4096
}

// truePlace is where a mantissa lies, as a true number, which may be below 0.
func truePlace(c api.Cap, x int) *big.Int {
	corner := (c.B/2048 + 7) % 8 * 2048
	address := number(c.Addr)
	middle := int(modulo(new(big.Int).Rsh(address, uint(c.E)), 14).Int64())
	part := new(big.Int).Rsh(address, uint(c.E+14))
	part.Add(part, big.NewInt(int64(one(x < corner && middle >= corner)-one(middle < corner && x >= corner))))
	whole := part.Lsh(part, uint(c.E+14))
	return whole.Add(whole, new(big.Int).Lsh(big.NewInt(int64(x)), uint(c.E)))
}

// trueOf is the range from Base to Top.
func trueOf(c api.Cap) api.Range {
	base := modulo(truePlace(c, c.B), 64)
	top := modulo(truePlace(c, trueT(c)), 65)
	over := top.Bit(64)
	upper := int(over)*2 + int(top.Bit(63))
	if c.E < 51 && (upper-int(base.Bit(63))+4)%4 > 1 {
		over ^= 1
	}
	return api.Range{Base: base.Uint64(), Top: modulo(top, 64).Uint64(), Over: over == 1}
}

// noughtsAhead is how many noughts stand ahead in one nought and n's bits 63 to 13.
func noughtsAhead(n uint64) int {
	count := 1
	for bit := 63; bit >= 13 && n>>bit&1 == 0; bit-- {
		count++
	}
	return count
}

// shifted is a number shifted down, modulo 2^11, and whether it had a bit below.
func shifted(n *big.Int, by int) (int, bool) {
	return int(modulo(new(big.Int).Rsh(n, uint(by)), 11).Int64()), modulo(n, by).Sign() != 0
}

// trueLay is what Lay makes, step by step as the document says it.
func trueLay(c api.Cap, n uint64) (api.Cap, bool) {
	address, top := number(c.Addr), end(c.Addr, n)
	e := 52 - noughtsAhead(n)
	if e == 0 && n>>12&1 == 0 {
		c.Big, c.E, c.B, c.T = false, 0, int(modulo(address, 14).Int64()), int(modulo(top, 12).Int64())
		return c, true
	}
	b, lostB := shifted(address, e+3)
	t, lostT := shifted(top, e+3)
	t += one(lostT)
	if (t-b+2048)%2048 >= 1024 {
		e++
		lostB = lostB || b%2 == 1
		lostT = lostT || t%2 == 1
		b, _ = shifted(address, e+3)
		t, _ = shifted(top, e+3)
		t += one(lostT)
	}
	c.Big, c.E, c.B, c.T = true, e, b*8, t*8%4096
	return c, !lostB && !lostT
}
