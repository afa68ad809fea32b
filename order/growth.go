package order

import (
	"ravelin/api"
	"ravelin/bounds"
	"ravelin/capops"
)

// growth is a closure as far as it has come.
type growth struct {
	list  []api.Cap
	there map[api.Cap]struct{} // what the list has: a long one isn't gone through for each that may be laid
	keys  []api.Range          // the bounds of those of the list that unseal, in its order
}

// lock is a sealed capability of the list: its place, and how many of the keys are known not to open it. A key that has not opened it never will, so each is tried once.
type lock struct {
	at, tried int
}

// begin is the growth that has the genuine ones of some capabilities.
func begin(l []api.Cap) growth {
	g := growth{there: make(map[api.Cap]struct{}, len(l))}
	for _, c := range l {
		if c.Tag {
			g.lay(c)
		}
	}
	return g
}

// lay lays a capability behind all others, unless it is there.
func (g *growth) lay(c api.Cap) {
	if _, is := g.there[c]; is {
		return
	}
	g.there[c] = struct{}{}
	g.list = append(g.list, c)
	if !capops.Sealed(c) && permits(c, api.PUnseal) {
		g.keys = append(g.keys, bounds.Of(c))
	}
}

// locks is the sealed ones of the list, in its order.
func (g *growth) locks() []lock {
	var list []lock
	for at, c := range g.list {
		if capops.Sealed(c) {
			list = append(list, lock{at: at})
		}
	}
	return list
}

// opens tells whether something of the list opens that one.
func (g *growth) opens(s *lock) bool {
	kind := g.list[s.at].Type
	if kind == api.TypeSentry {
		return true
	}
	for s.tried < len(g.keys) {
		key := g.keys[s.tried]
		s.tried++
		if names(key, kind) {
			return true
		}
	}
	return false
}

// names tells whether a type is one that can be sealed with, and in those bounds.
func names(r api.Range, kind int) bool {
	return kind <= api.MaxType && bounds.In(r, uint64(kind), 1)
}
