package capops_test

import (
	"math"
	"math/big"

	"ravelin/api"
	"ravelin/bounds"
	"ravelin/capenc"
)

// What the document's words say of what is made of capabilities, one by one, with true numbers for where bounds end.

// none, sentry and greatest are the types as the document's numbers.
const (
	none     = 262143
	sentry   = 262142
	greatest = 262135
)

// number is a uint64 as a true number.
func number(v uint64) *big.Int { return new(big.Int).SetUint64(v) }

// ends are a range's base and top as true numbers.
func ends(r api.Range) (base, top *big.Int) {
	base, top = number(r.Base), number(r.Top)
	if r.Over {
		top.Add(top, new(big.Int).Lsh(big.NewInt(1), 64))
	}
	return base, top
}

// trueBounds are a capability's base and top as true numbers.
func trueBounds(c api.Cap) (base, top *big.Int) { return ends(bounds.Of(c)) }

// trueWithin tells whether a's bounds are within b's.
func trueWithin(a, b api.Cap) bool {
	base, top := trueBounds(a)
	from, upTo := trueBounds(b)
	return base.Cmp(from) >= 0 && top.Cmp(upTo) <= 0
}

// has tells whether a set of permissions has that one.
func has(perms, bit int) bool { return perms>>bit&1 == 1 }

// all tells whether each permission of some is among others.
func all(some, others int) bool {
	for bit := range 16 {
		if has(some, bit) && !has(others, bit) {
			return false
		}
	}
	return true
}

// plain is a capability without a tag.
func plain(c api.Cap) api.Cap {
	c.Tag = false
	return c
}

// typed is a capability with that type.
func typed(c api.Cap, kind int) api.Cap {
	c.Type = kind
	return c
}

// trueMove is what Move makes.
func trueMove(c api.Cap, at uint64) api.Cap {
	moved := c
	moved.Addr = at
	if c.Type != none || bounds.Of(moved) != bounds.Of(c) {
		moved.Tag = false
	}
	return moved
}

// trueBound is what Bound makes.
func trueBound(c api.Cap, n uint64, exact bool) api.Cap {
	laid, _ := bounds.Lay(c, n)
	from := number(c.Addr)
	upTo := new(big.Int).Add(from, number(n))
	base, top := trueBounds(laid)
	switch {
	case c.Type != none, from.Cmp(base) < 0, upTo.Cmp(top) > 0, !trueWithin(laid, c):
		return plain(laid)
	case exact && (from.Cmp(base) != 0 || upTo.Cmp(top) != 0):
		return plain(laid)
	}
	return laid
}

// trueLess is what Less makes.
func trueLess(c api.Cap, perms int) api.Cap {
	less := c
	less.Perms = 0
	for bit := range 16 {
		if has(c.Perms, bit) && has(perms, bit) {
			less.Perms += 1 << bit
		}
	}
	if c.Type != none {
		return plain(less)
	}
	return less
}

// trueMode is what Mode makes.
func trueMode(c api.Cap, mode int) api.Cap {
	turned := c
	turned.Mode = 0
	if mode%2 != 0 {
		turned.Mode = 1
	}
	if c.Type != none {
		return plain(turned)
	}
	return turned
}

// trueCanSeal tells whether a capability can seal at its address.
func trueCanSeal(by api.Cap) bool {
	base, top := trueBounds(by)
	at := number(by.Addr)
	return by.Tag && by.Type == none && at.Cmp(base) >= 0 && at.Cmp(top) < 0
}

// trueSeal is what Seal makes.
func trueSeal(c, by api.Cap) api.Cap {
	if c.Tag && c.Type == none && trueCanSeal(by) && has(by.Perms, 7) && by.Addr <= greatest {
		return typed(c, int(by.Addr))
	}
	return plain(c)
}

// trueUnseal is what Unseal makes.
func trueUnseal(c, by api.Cap) api.Cap {
	if c.Tag && c.Type <= greatest && trueCanSeal(by) && has(by.Perms, 8) && number(by.Addr).Cmp(big.NewInt(int64(c.Type))) == 0 {
		c.Type = none
		if !has(by.Perms, 0) {
			c.Perms = c.Perms / 2 * 2
		}
		return c
	}
	return plain(c)
}

// trueSentry is what Sentry makes.
func trueSentry(c api.Cap) api.Cap {
	if c.Tag && c.Type == none && has(c.Perms, 1) {
		return typed(c, sentry)
	}
	return plain(c)
}

// trueBuild is what Build makes.
func trueBuild(by, c api.Cap) api.Cap {
	d := typed(c, none)
	if c.Type == sentry && has(c.Perms, 1) {
		d.Type = sentry
	}
	d.Tag = true
	base, top := trueBounds(c)
	if by.Tag && by.Type == none && base.Cmp(top) <= 0 && trueWithin(c, by) && all(c.Perms, by.Perms) {
		return d
	}
	return plain(c)
}

// trueTyped is what Typed makes.
func trueTyped(c, of api.Cap) api.Cap {
	if of.Type <= greatest {
		return trueMove(c, uint64(of.Type))
	}
	return capenc.Number(math.MaxUint64)
}

// trueSubset is what Subset tells.
func trueSubset(a, b api.Cap) bool {
	return a.Tag == b.Tag && trueWithin(b, a) && all(b.Perms, a.Perms)
}

// modulo is a true number modulo 2^64.
func modulo(n *big.Int) uint64 {
	return new(big.Int).Mod(n, new(big.Int).Lsh(big.NewInt(1), 64)).Uint64()
}

// trueFrom is what From makes.
func trueFrom(c api.Cap, n uint64) api.Cap {
	if n == 0 {
		return capenc.Number(0)
	}
	base, _ := trueBounds(c)
	return trueMove(c, modulo(base.Add(base, number(n))))
}

// trueOffset is how far an address is behind a capability's base.
func trueOffset(at uint64, of api.Cap) uint64 {
	base, _ := trueBounds(of)
	return modulo(new(big.Int).Sub(number(at), base))
}

// trueTo is what To tells.
func trueTo(c, of api.Cap) uint64 {
	if !c.Tag {
		return 0
	}
	return trueOffset(c.Addr, of)
}

// oneIf is 1 for what is so, else 0.
func oneIf(so bool) uint64 {
	if so {
		return 1
	}
	return 0
}

// atMost is a true number, but at least 0, and at most 2^64 - 1.
func atMost(n *big.Int) uint64 {
	switch {
	case n.Sign() < 0:
		return 0
	case !n.IsUint64():
		return math.MaxUint64
	}
	return n.Uint64()
}

// trueGet is what Get tells.
func trueGet(fn int, c api.Cap) (uint64, bool) {
	base, top := trueBounds(c)
	switch fn {
	case 0:
		return uint64(c.Perms), true
	case 1:
		if c.Type >= sentry {
			return uint64(int64(c.Type - none - 1)), true
		}
		return uint64(c.Type), true
	case 2:
		return base.Uint64(), true
	case 3:
		return atMost(top.Sub(top, base)), true
	case 4:
		return oneIf(c.Tag), true
	case 5:
		return oneIf(c.Type != none), true
	case 6:
		return trueOffset(c.Addr, c), true
	case 7:
		return uint64(c.Mode), true
	case 8:
		return bounds.Round(c.Addr), true
	case 9:
		return bounds.Mask(c.Addr), true
	case 15:
		return c.Addr, true
	case 24:
		return atMost(top), true
	}
	return 0, false
}
