package bounds

import (
	"math/bits"

	"ravelin/api"
)

// wide is a number of 65 bits: high is its bit 64. All it makes is modulo 2^65.
type wide struct {
	high, low uint64
}

// topOf is a range's top as a true number.
func topOf(r api.Range) wide {
	if r.Over {
		return wide{high: 1, low: r.Top}
	}
	return wide{low: r.Top}
}

// plus is the sum.
func (w wide) plus(v wide) wide {
	low, carry := bits.Add64(w.low, v.low, 0)
	return wide{high: (w.high + v.high + carry) % 2, low: low}
}

// up is it shifted up. A shift by more than 64 bits leaves nothing: the count wraps round, and is as good as endless.
func (w wide) up(by uint) wide {
	return wide{high: (w.high<<by | w.low>>(64-by)) % 2, low: w.low << by}
}

// down is it shifted down.
func (w wide) down(by uint) wide {
	return wide{high: w.high >> by, low: w.low>>by | w.high<<(64-by)}
}

// below tells whether it is less than another one.
func (w wide) below(v wide) bool {
	if w.high != v.high {
		return w.high < v.high
	}
	return w.low < v.low
}
