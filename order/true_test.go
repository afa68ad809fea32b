package order_test

import (
	"math/big"

	"ravelin/api"
	"ravelin/bounds"
)

// What the document's words say of which capabilities come of others, one by one, with true numbers for where bounds end.

// none, sentry and greatest are the types as the document's numbers; execute, toSeal and toUnseal the permissions.
const (
	none     = 262143
	sentry   = 262142
	greatest = 262135
	execute  = 1 << 1
	toSeal   = 1 << 7
	toUnseal = 1 << 8
)

// number is a uint64 as a true number.
func number(v uint64) *big.Int { return new(big.Int).SetUint64(v) }

// trueBounds are a capability's base and top as true numbers.
func trueBounds(c api.Cap) (base, top *big.Int) {
	r := bounds.Of(c)
	base, top = number(r.Base), number(r.Top)
	if r.Over {
		top.Add(top, new(big.Int).Lsh(big.NewInt(1), 64))
	}
	return base, top
}

// trueWithin tells whether a's bounds are within b's.
func trueWithin(a, b api.Cap) bool {
	base, top := trueBounds(a)
	from, upTo := trueBounds(b)
	return base.Cmp(from) >= 0 && top.Cmp(upTo) <= 0
}

// trueIn tells whether a type is in a capability's bounds.
func trueIn(c api.Cap, kind int) bool {
	base, top := trueBounds(c)
	at := big.NewInt(int64(kind))
	return at.Cmp(base) >= 0 && at.Cmp(top) < 0
}

// all tells whether each permission of some is among others.
func all(some, others int) bool {
	for bit := range 16 {
		if some>>bit&1 > others>>bit&1 {
			return false
		}
	}
	return true
}

// typed is a capability with that type.
func typed(c api.Cap, kind int) api.Cap {
	c.Type = kind
	return c
}

// trueLess is what Less tells.
func trueLess(a, b api.Cap) bool {
	return a.Tag && b.Tag && a.Type == none && b.Type == none && trueWithin(a, b) && all(a.Perms, b.Perms)
}

// isOf tells whether a capability is one of some.
func isOf(l []api.Cap, c api.Cap) bool {
	for _, x := range l {
		if x == c {
			return true
		}
	}
	return false
}

// oneMay tells whether one of some is not sealed, has a permission, and a type in its bounds.
func oneMay(l []api.Cap, perm, kind int) bool {
	for _, by := range l {
		if by.Type == none && by.Perms&perm != 0 && trueIn(by, kind) {
			return true
		}
	}
	return false
}

// trueClose is the closure, and how many times it is gone through with something new.
func trueClose(l []api.Cap) (list []api.Cap, rounds int) {
	for _, c := range l {
		if c.Tag && !isOf(list, c) {
			list = append(list, c)
		}
	}
	for {
		before := len(list)
		for _, c := range list {
			if c.Type == none || isOf(list, typed(c, none)) {
				continue
			}
			if c.Type == sentry || c.Type <= greatest && oneMay(list, toUnseal, c.Type) {
				list = append(list, typed(c, none))
			}
		}
		if len(list) == before {
			return list, rounds
		}
		rounds++
	}
}

// trueHas is what Has tells.
func trueHas(l []api.Cap, c api.Cap) bool {
	if !c.Tag || isOf(l, c) {
		return true
	}
	closure, _ := trueClose(l)
	switch {
	case c.Type == none:
		for _, b := range closure {
			if trueLess(c, b) {
				return true
			}
		}
		return false
	case c.Type == sentry:
		return c.Perms&execute != 0 && trueHas(l, typed(c, none))
	}
	return c.Type <= greatest && trueHas(l, typed(c, none)) && oneMay(closure, toSeal, c.Type)
}
