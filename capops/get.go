package capops

import (
	"math"

	"ravelin/api"
	"ravelin/bounds"
)

// Get is what is asked of a capability (but GMove, GClear, GSentry).
func Get(fn int, c api.Cap) (uint64, bool) {
	answer, ok := questions()[fn]
	if !ok {
		return 0, false
	}
	return answer(c), true
}

// questions is what can be asked of a capability, by its number.
func questions() map[int]func(c api.Cap) uint64 {
	return map[int]func(c api.Cap) uint64{
		api.GPerms:  func(c api.Cap) uint64 { return uint64(c.Perms) },
		api.GType:   kind,
		api.GBase:   base,
		api.GLen:    func(c api.Cap) uint64 { return bounds.Len(bounds.Of(c)) },
		api.GTag:    func(c api.Cap) uint64 { return one(c.Tag) },
		api.GSealed: func(c api.Cap) uint64 { return one(Sealed(c)) },
		api.GOffset: func(c api.Cap) uint64 { return c.Addr - base(c) },
		api.GMode:   func(c api.Cap) uint64 { return uint64(c.Mode) },
		api.GRound:  func(c api.Cap) uint64 { return bounds.Round(c.Addr) },
		api.GMask:   func(c api.Cap) uint64 { return bounds.Mask(c.Addr) },
		api.GAddr:   func(c api.Cap) uint64 { return c.Addr },
		api.GTop:    top,
	}
}

// kind is a capability's type as it is told: of the two that no address can name, as -1 and -2.
func kind(c api.Cap) uint64 {
	switch c.Type {
	case api.TypeNone:
		return math.MaxUint64
	case api.TypeSentry:
		return math.MaxUint64 - 1
	}
	return uint64(c.Type)
}

// top is where a capability's bounds end, as far as 64 bits can tell.
func top(c api.Cap) uint64 {
	r := bounds.Of(c)
	if r.Over {
		return math.MaxUint64
	}
	return r.Top
}

// one is 1 for what is so, else 0.
func one(so bool) uint64 {
	if so {
		return 1
	}
	return 0
}
