package bounds

import (
	"math"
	"math/big"
	"testing"
)

// wides are numbers of 65 bits about their ends and in between.
func wides() []wide {
	var list []wide
	for _, low := range []uint64{0, 1, 5, 1 << 32, 0x0123456789ABCDEF, 1<<63 - 1, 1 << 63, math.MaxUint64 - 1, math.MaxUint64} {
		list = append(list, wide{low: low}, wide{high: 1, low: low})
	}
	return list
}

// whole is a number of 65 bits as a true number.
func whole(w wide) *big.Int {
	n := new(big.Int).SetUint64(w.high)
	return n.Or(n.Lsh(n, 64), new(big.Int).SetUint64(w.low))
}

// same tells whether a number of 65 bits is a true number modulo 2^65.
func same(w wide, n *big.Int) bool {
	return whole(w).Cmp(n.Mod(n, new(big.Int).Lsh(big.NewInt(1), 65))) == 0
}

// P3.1, P3.3: numbers of 65 bits are added, shifted and compared as true numbers modulo 2^65 are, by any count.
func TestWideIsTrue(t *testing.T) {
	for _, a := range wides() {
		for _, b := range wides() {
			if !same(a.plus(b), new(big.Int).Add(whole(a), whole(b))) || a.below(b) != (whole(a).Cmp(whole(b)) < 0) {
				t.Fatalf("%+v, %+v: sum %+v, below %v", a, b, a.plus(b), a.below(b))
			}
		}
		for by := uint(0); by < 140; by++ {
			if !same(a.up(by), new(big.Int).Lsh(whole(a), by)) || !same(a.down(by), new(big.Int).Rsh(whole(a), by)) {
				t.Fatalf("%+v by %d: up %+v, down %+v", a, by, a.up(by), a.down(by))
			}
		}
	}
}
