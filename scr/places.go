package scr

import "ravelin/api"

// places is where a processor's special registers stand, by their numbers. It is made anew for each call: kept, it would hold on to a processor.
func places(h *api.Hart) map[int]*api.Cap {
	return map[int]*api.Cap{
		api.SPcc:   &h.Pcc,
		api.SDdc:   &h.Ddc,
		api.SStcc:  &h.Stcc,
		api.SStdc:  &h.Stdc,
		api.SSscr:  &h.Sscr,
		api.SSepcc: &h.Sepcc,
		api.SMtcc:  &h.Mtcc,
		api.SMtdc:  &h.Mtdc,
		api.SMscr:  &h.Mscr,
		api.SMepcc: &h.Mepcc,
	}
}

// place is where the register of that number stands; nil: there is none.
func place(h *api.Hart, no int) *api.Cap { return places(h)[no] }

// below tells whether a processor has less privilege than a register asks for. PCC and DDC ask for none, whatever Priv is.
func below(h *api.Hart, no int) bool {
	return no >= api.SStcc && h.Priv < api.Supervisor || no >= api.SMtcc && h.Priv < api.Machine
}
