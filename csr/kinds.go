package csr

import (
	"ravelin/api"
	"ravelin/capops"
)

// number is a register that has some bits of a number of the processor; what is written leaves no others.
func number(at func(h *api.Hart) *uint64, bits uint64) register {
	return register{
		read:  func(h *api.Hart, _, _ uint64) uint64 { return *at(h) & bits },
		write: func(h *api.Hart, v uint64) { *at(h) = v & bits },
	}
}

// address is a register that has the address of a capability, which is moved without some bits.
func address(at func(h *api.Hart) *api.Cap, without uint64) register {
	return register{
		read:  func(h *api.Hart, _, _ uint64) uint64 { return at(h).Addr },
		write: func(h *api.Hart, v uint64) { *at(h) = capops.Move(*at(h), v&^without) },
	}
}

// fixed is a register that has the same always.
func fixed(v uint64) register {
	return register{
		read:  func(*api.Hart, uint64, uint64) uint64 { return v },
		write: keep,
	}
}

// keep is a write that does nothing.
func keep(*api.Hart, uint64) {}

// lay is a number with some bits of another one.
func lay(n, v, bits uint64) uint64 { return n&^bits | v&bits }
