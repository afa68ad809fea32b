package base

import "ravelin/api"

// upper is the reader of an opcode that lays a number's upper bits.
func upper(op int) reader {
	return func(w word) (api.Insn, bool) {
		return api.Insn{Op: op, Rd: w.rd(), Imm: w.immU()}, true
	}
}

// narrow is the reader of 32 bits beside one of 64: of the same words there are fewer.
func narrow(wide reader) reader {
	return func(w word) (api.Insn, bool) {
		x, ok := wide(w)
		x.Word = true
		return x, ok && isNarrow(x)
	}
}

// isNarrow tells of an operation of 64 bits whether it has a word of 32 bits.
func isNarrow(x api.Insn) bool {
	switch x.Op {
	case api.OMul:
		return x.Fn == api.MMul || x.Fn >= api.MDiv
	case api.OAluImm:
		// The number's highest bit is f7's lowest: no word of 32 bits is moved so far.
		return x.Fn == api.AAdd || isShift(x.Fn) && x.Imm < 32
	}
	return x.Fn == api.AAdd || x.Fn == api.ASub || isShift(x.Fn)
}

// isShift tells whether an operation moves bits.
func isShift(fn int) bool {
	return fn == api.ASll || fn == api.ASrl || fn == api.ASra
}

// The methods from here on are what there is of one opcode each (privileged: of one f3 of one).

func (w word) jal() (api.Insn, bool) {
	return api.Insn{Op: api.OJal, Rd: w.rd(), Imm: w.immJ()}, true
}

func (w word) jalr() (api.Insn, bool) {
	return api.Insn{Op: api.OJalr, Rd: w.rd(), Rs1: w.rs1(), Imm: w.immI()}, w.f3() == 0
}

func (w word) branch() (api.Insn, bool) {
	fn := w.f3()
	x := api.Insn{Op: api.OBranch, Fn: fn, Rs1: w.rs1(), Rs2: w.rs2(), Imm: w.immB()}
	return x, fn <= api.BNe || fn >= api.BLt
}

func (w word) load() (api.Insn, bool) {
	width := w.f3()
	return api.Insn{Op: api.OLoad, Width: width, Rd: w.rd(), Rs1: w.rs1(), Imm: w.immI()}, width <= api.WideU
}

func (w word) store() (api.Insn, bool) {
	width := w.f3()
	return api.Insn{Op: api.OStore, Width: width, Rs1: w.rs1(), Rs2: w.rs2(), Imm: w.immS()}, width <= api.Long
}

func (w word) fence() (api.Insn, bool) {
	switch w.f3() {
	case 0:
		return api.Insn{Op: api.OFence}, true
	case 1:
		return api.Insn{Op: api.OFenceI}, true
	}
	return api.Insn{}, false
}

func (w word) aluImm() (api.Insn, bool) {
	x := api.Insn{Op: api.OAluImm, Fn: w.f3(), Rd: w.rd(), Rs1: w.rs1(), Imm: w.immI()}
	if !isShift(x.Fn) {
		return x, true
	}
	x.Imm = w.field(25, 20)
	switch w.field(31, 26) {
	case 0:
		return x, true
	case 16:
		return turned(x)
	}
	return api.Insn{}, false
}

func (w word) alu() (api.Insn, bool) {
	x := api.Insn{Op: api.OAlu, Fn: w.f3(), Rd: w.rd(), Rs1: w.rs1(), Rs2: w.rs2()}
	switch w.f7() {
	case 0:
		return x, true
	case 1:
		x.Op = api.OMul
		return x, true
	case 32:
		return turned(x)
	}
	return api.Insn{}, false
}

// turned is the operation that bit 30 makes of one: a sum becomes a difference, and what comes in from above gets a sign; false: it makes none.
func turned(x api.Insn) (api.Insn, bool) {
	switch {
	case x.Fn == api.AAdd:
		x.Fn = api.ASub
	case x.Fn == api.ASrl:
		x.Fn = api.ASra
	default:
		return api.Insn{}, false
	}
	return x, true
}

func (w word) atomic() (api.Insn, bool) {
	x := api.Insn{Width: w.f3(), Rd: w.rd(), Rs1: w.rs1()}
	ok := x.Width == api.Wide || x.Width == api.Long
	switch fn := w.field(31, 27); fn {
	case 2:
		x.Op = api.OLr
		return x, ok && w.rs2() == 0
	case 3:
		x.Op = api.OSc
	case api.XAdd, api.XSwap, api.XXor, api.XOr, api.XAnd, api.XMin, api.XMax, api.XMinu, api.XMaxu:
		x.Op, x.Fn = api.OAmo, fn
	default:
		return api.Insn{}, false
	}
	x.Rs2 = w.rs2()
	return x, ok
}

func (w word) system() (api.Insn, bool) {
	f3 := w.f3()
	if f3 == 0 {
		return w.privileged()
	}
	x := api.Insn{Op: api.OCsr, Fn: f3 % 4, Use: f3 >= 5, Rd: w.rd(), Rs1: w.rs1(), Imm: w.field(31, 20)}
	return x, f3 != 4
}

// privileged is what of f3 0 there is beside the control registers.
func (w word) privileged() (api.Insn, bool) {
	switch w {
	case 0x73:
		return api.Insn{Op: api.OEcall}, true
	case 0x100073:
		return api.Insn{Op: api.OEbreak}, true
	case 0x30200073:
		return api.Insn{Op: api.OMret}, true
	case 0x10200073:
		return api.Insn{Op: api.OSret}, true
	case 0x10500073:
		return api.Insn{Op: api.OWfi}, true
	}
	return api.Insn{Op: api.OSfence, Rs1: w.rs1(), Rs2: w.rs2()}, w.f7() == 9 && w.rd() == 0
}
