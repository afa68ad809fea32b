package scr_test

import (
	"math"

	"ravelin/api"
)

// mix is a number that looks like chance, and is the same for the same one.
func mix(v uint64) uint64 {
	z := (v + 1) * 0x9E3779B97F4A7C15
	z = (z ^ z>>30) * 0xBF58476D1CE4E5B9
	z = (z ^ z>>27) * 0x94D049BB133111EB
	return z ^ z>>31
}

// caps is where a processor's capabilities are.
func caps(h *api.Hart) []*api.Cap {
	list := []*api.Cap{&h.Pcc, &h.Ddc, &h.Stcc, &h.Stdc, &h.Sscr, &h.Sepcc, &h.Mtcc, &h.Mtdc, &h.Mscr, &h.Mepcc}
	for i := range h.X {
		list = append(list, &h.X[i])
	}
	return list
}

// root is a capability to all, at an address.
func root(at uint64) api.Cap {
	return api.Cap{Tag: true, Perms: every, Type: 262143, E: 52, T: 1 << 12, Big: true, Addr: at}
}

// marked is a processor of which every capability is another one, and every number too.
func marked(seed uint64) *api.Hart {
	h := &api.Hart{
		Priv: machine, Waiting: seed%2 == 1,
		Mstatus: mix(seed), Medeleg: mix(seed + 1), Mideleg: mix(seed + 2), Mie: mix(seed + 3), Mip: mix(seed + 4),
		Mscratch: mix(seed + 5), Sscratch: mix(seed + 6), Mcause: mix(seed + 7), Scause: mix(seed + 8),
		Mtval: mix(seed + 9), Stval: mix(seed + 10), Satp: mix(seed + 11),
		Mcounteren: mix(seed + 12), Scounteren: mix(seed + 13), Cycle: mix(seed + 14), Instret: mix(seed + 15),
	}
	for i, at := range caps(h) {
		*at = root(mix(seed*100 + uint64(i)))
	}
	return h
}

// asking is one with a privilege whose Pcc has these permissions alone.
func asking(priv, perms int) *api.Hart {
	h := marked(uint64(priv) + 1)
	h.Priv, h.Pcc.Perms = priv, perms
	return h
}

// privileges is those that there are, and such as none is.
func privileges() []int {
	return []int{user, supervisor, machine, 2, 4, -1, math.MinInt, math.MaxInt}
}

// sorts is capabilities of all sorts: a root, one without a tag, sealed ones, of both modes, a number, a zero one, and such as are not right.
func sorts() []api.Cap {
	plain, sentry, sealed, moded, small := root(1), root(2), root(3), root(4), root(5)
	plain.Tag, sentry.Type, sealed.Type, moded.Mode = false, 262142, 5, 1
	small.E, small.B, small.T, small.Big = 0, 5, 9, false
	list := []api.Cap{root(0), root(math.MaxUint64), plain, sentry, sealed, moded, small, {}, {Type: 262143, Addr: 77}, {Tag: true}}
	for _, n := range []int{math.MinInt, -1, 2, 53, 1 << 12, 1 << 14, 1 << 16, 1 << 18, math.MaxInt} {
		for i := range 6 {
			c := root(uint64(n))
			*[]*int{&c.Perms, &c.Type, &c.Mode, &c.E, &c.B, &c.T}[i] = n
			list = append(list, c)
		}
		list = append(list, api.Cap{Tag: n < 0, Perms: n, Type: n, Mode: n, E: n, B: n, T: n, Big: n > 0, Addr: uint64(n)})
	}
	return list
}

// harts is processors of all sorts, also such as may not be.
func harts() []*api.Hart {
	list := []*api.Hart{{}, {Priv: machine}}
	for seed := range uint64(4) {
		list = append(list, marked(seed))
	}
	for i := range sorts() {
		h := marked(uint64(i))
		for j, at := range caps(h) {
			*at = sorts()[(i+j)%len(sorts())]
		}
		h.Priv = privileges()[i%len(privileges())]
		list = append(list, h)
	}
	return list
}
