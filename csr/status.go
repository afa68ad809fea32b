package csr

import "ravelin/api"

// Bits of Mstatus that the two have that are of it, and those that they show besides: that users, and supervisors, have numbers of 64 bits.
const (
	machineStatus    = 0x7E19AA
	supervisorStatus = 0xC0122
	wideUser         = 1 << 33
	wideSupervisor   = 1 << 35
)

// Bits of Mstatus that are the privilege ahead of a trap, and the one that is none.
const (
	ahead   = 3 << 11
	noAhead = 2 << 11
)

// soft is the interrupt that a supervisor makes itself.
const soft = 1 << 1

// How Satp tells that there are pages, or none, in its highest four bits.
const (
	wayShift = 60
	bare     = 0
	paged    = 8
)

// readMstatus is Mstatus as a machine sees it.
func readMstatus(h *api.Hart, _, _ uint64) uint64 {
	return h.Mstatus&machineStatus | wideUser | wideSupervisor
}

// writeMstatus lays it; a privilege that there is not is the least one.
func writeMstatus(h *api.Hart, v uint64) {
	if v&ahead == noAhead {
		v &^= ahead
	}
	h.Mstatus = v & machineStatus
}

// readSstatus is Mstatus as a supervisor sees it.
func readSstatus(h *api.Hart, _, _ uint64) uint64 {
	return h.Mstatus&supervisorStatus | wideUser
}

// writeSstatus lays what a supervisor sees of it.
func writeSstatus(h *api.Hart, v uint64) { h.Mstatus = lay(h.Mstatus, v, supervisorStatus) }

// delegated is the interrupts that a machine passed on.
func delegated(h *api.Hart) uint64 { return h.Mideleg & passed }

// readSie is the interrupts that are on, as a supervisor sees them.
func readSie(h *api.Hart, _, _ uint64) uint64 { return h.Mie & delegated(h) }

// writeSie turns those on and off that a supervisor sees.
func writeSie(h *api.Hart, v uint64) { h.Mie = lay(h.Mie, v, delegated(h)) }

// readMip is the interrupts that are pending, by software, or by devices.
func readMip(h *api.Hart, _, lines uint64) uint64 { return h.Mip&passed | lines&interrupts }

// writeMip lays those by software.
func writeMip(h *api.Hart, v uint64) { h.Mip = v & passed }

// readSip is those that are pending, as a supervisor sees them.
func readSip(h *api.Hart, time, lines uint64) uint64 { return readMip(h, time, lines) & delegated(h) }

// writeSip lays the one that a supervisor makes itself.
func writeSip(h *api.Hart, v uint64) { h.Mip = lay(h.Mip, v, delegated(h)&soft) }

// readSatp is where pages are.
func readSatp(h *api.Hart, _, _ uint64) uint64 { return h.Satp }

// writeSatp lays it, unless it tells a way that there is not.
func writeSatp(h *api.Hart, v uint64) {
	switch v >> wayShift {
	case bare, paged:
		h.Satp = v
	}
}
