package csr_test

import (
	"slices"

	"ravelin/api"
	"ravelin/bounds"
)

// What the document's words say of control registers, bit by bit.

// The privileges, and the numbers that a refusal has, as the document's numbers.
const (
	user       = 0
	supervisor = 1
	machine    = 3
	illegal    = 2
	refused    = 28
	noSystem   = 32*32 + 24
	unsealed   = 262143
)

// Bits of registers, by their numbers.
func statusBits() []int      { return []int{1, 3, 5, 7, 8, 11, 12, 17, 18, 19, 20, 21, 22} }
func superStatusBits() []int { return []int{1, 5, 8, 18, 19} }
func exceptionBits() []int   { return []int{0, 1, 2, 3, 4, 5, 6, 7, 8, 9, 12, 13, 15, 27, 28} }
func interruptBits() []int   { return []int{1, 3, 5, 7, 9, 11} }
func passedBits() []int      { return []int{1, 5, 9} }
func counterBits() []int     { return []int{0, 1, 2} }

// has tells whether a number has that bit.
func has(v uint64, bit int) bool { return v>>bit&1 == 1 }

// only is a number with some of its bits alone.
func only(v uint64, bits []int) uint64 {
	sum := uint64(0)
	for _, bit := range bits {
		if has(v, bit) {
			sum += 1 << bit
		}
	}
	return sum
}

// laid is a number with some bits of another one.
func laid(n, v uint64, bits []int) uint64 {
	sum := only(v, bits)
	for bit := range 64 {
		if has(n, bit) && !slices.Contains(bits, bit) {
			sum += 1 << bit
		}
	}
	return sum
}

// without is a number that has not that bit.
func without(v uint64, bit int) uint64 { return laid(v, 0, []int{bit}) }

// passed is the interrupts that are in Mideleg.
func passed(h *api.Hart) []int {
	return slices.DeleteFunc(passedBits(), func(bit int) bool { return !has(h.Mideleg, bit) })
}

// named is the numbers of the registers that the table tells one by one.
func named() []int {
	return []int{
		0x100, 0x104, 0x105, 0x106, 0x140, 0x141, 0x142, 0x143, 0x144, 0x180,
		0x300, 0x301, 0x302, 0x303, 0x304, 0x305, 0x306, 0x340, 0x341, 0x342, 0x343, 0x344,
		0xB00, 0xB02, 0xC00, 0xC01, 0xC02, 0xF11, 0xF12, 0xF13, 0xF14,
	}
}

// isRegister tells whether a number is one of them, or of those that have nothing.
func isRegister(no int) bool { return no >= 0x3A0 && no <= 0x3EF || slices.Contains(named(), no) }

// registers is the numbers of all.
func registers() []int {
	list := named()
	for no := 0x3A0; no <= 0x3EF; no++ {
		list = append(list, no)
	}
	return list
}

// readAlone tells whether no write is done to a number.
func readAlone(no int) bool { return no/1024%4 == 3 }

// plainMay is what May answers.
func plainMay(h *api.Hart, no int, write bool) api.Trap {
	if !isRegister(no) {
		return api.Trap{Is: true, Cause: illegal}
	}
	least := no / 256 % 4
	bad := least > h.Priv || write && readAlone(no)
	if no == 0x180 && h.Priv == supervisor && has(h.Mstatus, 20) {
		bad = true
	}
	if no/16 == 0xC0 && (h.Priv < machine && !has(h.Mcounteren, no%16) || h.Priv == user && !has(h.Scounteren, no%16)) {
		bad = true
	}
	switch {
	case bad:
		return api.Trap{Is: true, Cause: illegal}
	case least != 0 && h.Pcc.Perms/512%2 == 0:
		return api.Trap{Is: true, Cause: refused, Value: noSystem}
	}
	return api.Trap{}
}

// plainRead is what Read answers.
func plainRead(h *api.Hart, no int, time, lines uint64) (uint64, bool) {
	if !isRegister(no) {
		return 0, false
	}
	pending := only(h.Mip, passedBits()) | only(lines, interruptBits())
	return map[int]uint64{
		0x100: only(h.Mstatus, superStatusBits()) + 1<<33,
		0x104: only(h.Mie, passed(h)),
		0x105: h.Stcc.Addr,
		0x106: only(h.Scounteren, counterBits()),
		0x140: h.Sscratch,
		0x141: h.Sepcc.Addr,
		0x142: h.Scause,
		0x143: h.Stval,
		0x144: only(pending, passed(h)),
		0x180: h.Satp,
		0x300: only(h.Mstatus, statusBits()) + 1<<33 + 1<<35,
		0x301: 1<<63 + 1<<20 + 1<<18 + 1<<12 + 1<<8 + 1<<2 + 1<<0,
		0x302: only(h.Medeleg, exceptionBits()),
		0x303: only(h.Mideleg, passedBits()),
		0x304: only(h.Mie, interruptBits()),
		0x305: h.Mtcc.Addr,
		0x306: only(h.Mcounteren, counterBits()),
		0x340: h.Mscratch,
		0x341: h.Mepcc.Addr,
		0x342: h.Mcause,
		0x343: h.Mtval,
		0x344: pending,
		0xB00: h.Cycle,
		0xB02: h.Instret,
		0xC00: h.Cycle,
		0xC01: time,
		0xC02: h.Instret,
	}[no], true
}

// plainWrite is what Write does, and answers.
func plainWrite(h *api.Hart, no int, v uint64) bool {
	switch no {
	case 0x100:
		h.Mstatus = laid(h.Mstatus, v, superStatusBits())
	case 0x104:
		h.Mie = laid(h.Mie, v, passed(h))
	case 0x144:
		if has(h.Mideleg, 1) {
			h.Mip = laid(h.Mip, v, []int{1})
		}
	case 0x180:
		if v>>60 == 0 || v>>60 == 8 {
			h.Satp = v
		}
	case 0x300:
		h.Mstatus = only(v, statusBits())
		if has(v, 12) && !has(v, 11) {
			h.Mstatus -= 1 << 12
		}
	default:
		return plainLay(h, no, v)
	}
	return true
}

// plainLay is that of registers of which all that they have is written.
func plainLay(h *api.Hart, no int, v uint64) bool {
	switch no {
	case 0x105:
		h.Stcc = moved(h.Stcc, without(v, 1))
	case 0x141:
		h.Sepcc = moved(h.Sepcc, without(v, 0))
	case 0x305:
		h.Mtcc = moved(h.Mtcc, without(v, 1))
	case 0x341:
		h.Mepcc = moved(h.Mepcc, without(v, 0))
	case 0x106:
		h.Scounteren = only(v, counterBits())
	case 0x302:
		h.Medeleg = only(v, exceptionBits())
	case 0x303:
		h.Mideleg = only(v, passedBits())
	case 0x304:
		h.Mie = only(v, interruptBits())
	case 0x306:
		h.Mcounteren = only(v, counterBits())
	case 0x344:
		h.Mip = only(v, passedBits())
	default:
		return plainWhole(h, no, v)
	}
	return true
}

// plainWhole is that of registers that are what is written, and of such as have nothing.
func plainWhole(h *api.Hart, no int, v uint64) bool {
	switch no {
	case 0x140:
		h.Sscratch = v
	case 0x142:
		h.Scause = v
	case 0x143:
		h.Stval = v
	case 0x340:
		h.Mscratch = v
	case 0x342:
		h.Mcause = v
	case 0x343:
		h.Mtval = v
	case 0xB00:
		h.Cycle = v
	case 0xB02:
		h.Instret = v
	default:
		return no == 0x301 || no >= 0x3A0 && no <= 0x3EF
	}
	return true
}

// moved is a capability with another address, which keeps its tag only if it is not sealed, and its bounds stay.
func moved(c api.Cap, at uint64) api.Cap {
	to := c
	to.Addr = at
	to.Tag = c.Tag && c.Type == unsealed && bounds.Of(to) == bounds.Of(c)
	return to
}
