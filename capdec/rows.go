package capdec

import "ravelin/api"

// The opcodes of which there are instructions here. Those of loads and stores are other instructions' too (base, layer 7), with other f3s.
const (
	opLoad  = 0x0F
	opStore = 0x23
	opCap   = 0x5B
)

// The f7s, of registers alone, that are not themselves what is done with two.
const (
	ofSpecial  = 0x01
	ofStoreVia = 0x7C
	ofLoadVia  = 0x7D
	ofOne      = 0x7F
)

// jump stands among what may be asked of one, and asks nothing.
const jump = 12

// The methods from here on are the instruction that a word is, but for Len and Raw; where false stands beside it, the word is none. Behind read, each is for the words that one above it hands on.

func (w word) read() (api.Insn, bool) {
	switch w.op() {
	case opLoad:
		return api.Insn{Op: api.OLoad, Width: api.Quad, Rd: w.rd(), Rs1: w.rs1(), Imm: w.immI()}, w.f3() == 2
	case opStore:
		return api.Insn{Op: api.OStore, Width: api.Quad, Rs1: w.rs1(), Rs2: w.rs2(), Imm: w.immS()}, w.f3() == 4
	case opCap:
		return w.ofCapabilities()
	}
	return api.Insn{}, false
}

func (w word) ofCapabilities() (api.Insn, bool) {
	x := api.Insn{Op: api.OCapImm, Rd: w.rd(), Rs1: w.rs1()}
	switch w.f3() {
	case 0:
		return w.ofRegisters()
	case 1:
		x.Fn, x.Imm = api.IInc, w.immI()
	case 2:
		// A length has no sign.
		x.Fn, x.Imm = api.ISetBounds, w.field(31, 20)
	default:
		return api.Insn{}, false
	}
	return x, true
}

func (w word) ofRegisters() (api.Insn, bool) {
	x := api.Insn{Rd: w.rd(), Rs1: w.rs1()}
known:
	switch f7 := w.f7(); f7 {
	case ofSpecial:
		x.Op, x.Imm = api.OSpecial, w.rs2()
	case api.CSetBounds, api.CSetExact, api.CSeal, api.CUnseal, api.CAndPerms, api.CSetMode, api.CSetOffset, api.CSetAddr,
		api.CInc, api.CToPtr, api.CFromPtr, api.CSub, api.CBuild, api.CCopyType, api.CSubset:
		x.Op, x.Fn, x.Rs2 = api.OCapOp, f7, w.rs2()
	case ofStoreVia:
		return w.storeVia()
	case ofLoadVia:
		return w.loadVia()
	case ofOne:
		switch fn := w.rs2(); fn {
		case api.GPerms, api.GType, api.GBase, api.GLen, api.GTag, api.GSealed, api.GOffset, api.GMode,
			api.GRound, api.GMask, api.GMove, api.GClear, api.GAddr, api.GSentry, api.GTop:
			x.Op, x.Fn = api.OCapGet, fn
			break known
		case jump:
			x.Op = api.OCjalr
			break known
		}
		return api.Insn{}, false
	default:
		return api.Insn{}, false
	}
	return x, true
}

func (w word) loadVia() (api.Insn, bool) {
	way := w.rs2()
	return api.Insn{Op: api.OLoadVia, Width: way % 8, Use: way >= 8, Rd: w.rd(), Rs1: w.rs1()}, way < 16
}

func (w word) storeVia() (api.Insn, bool) {
	way := w.rd()
	x := api.Insn{Op: api.OStoreVia, Width: way % 8, Use: way >= 8, Rs1: w.rs1(), Rs2: w.rs2()}
	switch x.Width {
	case api.Byte, api.Half, api.Wide, api.Long, api.Quad:
		return x, way < 16
	}
	return api.Insn{}, false
}
