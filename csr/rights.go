package csr

import "ravelin/api"

// noPaging is the bit of Mstatus by which a supervisor may not turn pages on and off.
const noPaging = 1 << 20

// level is the least privilege that a register's number asks for.
func level(no int) int { return no >> 8 & 3 }

// readAlone tells whether a register's number says that nobody writes it.
func readAlone(no int) bool { return no>>10&3 == 3 }

// barred tells whether a machine keeps a supervisor from where pages are.
func barred(h *api.Hart, no int) bool {
	return no == satp && h.Priv == api.Supervisor && h.Mstatus&noPaging != 0
}

// hidden tells whether those with more privilege do not show a counter: a machine to all below it, a supervisor to users, too.
func hidden(h *api.Hart, no int) bool {
	if no < cycle || no > instret {
		return false
	}
	bit := uint64(1) << (no - cycle)
	return h.Priv < api.Machine && h.Mcounteren&bit == 0 ||
		h.Priv == api.User && h.Scounteren&bit == 0
}
