package rvc

import "ravelin/api"

// The registers that halves need not name.
const (
	zero  = 0
	link  = 1
	stack = 2
)

// unless is a word, or none, where it is barred.
func unless(barred bool, w uint32) (uint32, bool) {
	if barred {
		return 0, false
	}
	return w, true
}

// nearLoad is the row of loads behind a near register, of a width.
func nearLoad(width uint32, kind int) row {
	return func(h half) (uint32, bool) {
		return wordI(opLoad, width, h.nearRs2(), h.nearRd(), h.number(kind)), true
	}
}

// nearStore is the row of stores behind a near register, of a width.
func nearStore(width uint32, kind int) row {
	return func(h half) (uint32, bool) {
		return wordSB(opStore, formS, width, h.nearRd(), h.nearRs2(), h.number(kind)), true
	}
}

// stackLoad is the row of loads behind the stack's register, of a width.
func stackLoad(width uint32, kind int) row {
	return func(h half) (uint32, bool) {
		return unless(h.rd() == zero, wordI(opLoad, width, h.rd(), stack, h.number(kind)))
	}
}

// stackStore is the row of stores behind the stack's register, of a width.
func stackStore(width uint32, kind int) row {
	return func(h half) (uint32, bool) {
		return wordSB(opStore, formS, width, stack, h.rs2(), h.number(kind)), true
	}
}

// branch is the row of branches on whether a near register is nought.
func branch(fn uint32) row {
	return func(h half) (uint32, bool) {
		return wordSB(opBranch, formB, fn, h.nearRd(), zero, h.signed(branching)), true
	}
}

// The methods from here on, but for nearPair, are a row each.

func (h half) placeOnStack() (uint32, bool) {
	n := h.number(place)
	return unless(n == 0, wordI(opAluImm, api.AAdd, h.nearRs2(), stack, n))
}

func (h half) add() (uint32, bool) {
	return wordI(opAluImm, api.AAdd, h.rd(), h.rd(), h.signed(small)), true
}

func (h half) addWord() (uint32, bool) {
	return unless(h.rd() == zero, wordI(opAluImmWord, api.AAdd, h.rd(), h.rd(), h.signed(small)))
}

func (h half) set() (uint32, bool) {
	return wordI(opAluImm, api.AAdd, h.rd(), zero, h.signed(small)), true
}

func (h half) upperOrStack() (uint32, bool) {
	if h.rd() == stack {
		n := h.signed(frame)
		return unless(n == 0, wordI(opAluImm, api.AAdd, stack, stack, n))
	}
	n := h.signed(upper)
	return unless(n == 0, wordUJ(opLui, formU, h.rd(), n))
}

func (h half) near() (uint32, bool) {
	rd := h.nearRd()
	switch h.field(11, 10) {
	case 0:
		return wordI(opAluImm, api.ASrl, rd, rd, h.number(small)), true
	case 1:
		return variant | wordI(opAluImm, api.ASrl, rd, rd, h.number(small)), true
	case 2:
		return wordI(opAluImm, api.AAnd, rd, rd, h.signed(small)), true
	}
	return h.nearPair()
}

// nearPair is what stands in the row near for what is made of two registers.
func (h half) nearPair() (uint32, bool) {
	rd, rs2 := h.nearRd(), h.nearRs2()
	switch h.bit12()<<2 | h.field(6, 5) {
	case 0:
		return variant | wordR(opAlu, api.AAdd, rd, rd, rs2), true
	case 1:
		return wordR(opAlu, api.AXor, rd, rd, rs2), true
	case 2:
		return wordR(opAlu, api.AOr, rd, rd, rs2), true
	case 3:
		return wordR(opAlu, api.AAnd, rd, rd, rs2), true
	case 4:
		return variant | wordR(opAluWord, api.AAdd, rd, rd, rs2), true
	case 5:
		return wordR(opAluWord, api.AAdd, rd, rd, rs2), true
	}
	return 0, false
}

func (h half) jump() (uint32, bool) {
	return wordUJ(opJal, formJ, zero, h.signed(jumping)), true
}

func (h half) shiftLeft() (uint32, bool) {
	return wordI(opAluImm, api.ASll, h.rd(), h.rd(), h.number(small)), true
}

func (h half) jumpOrMove() (uint32, bool) {
	rd, rs2 := h.rd(), h.rs2()
	switch {
	case h.bit12() == 0 && rs2 == zero:
		return unless(rd == zero, wordI(opJalr, 0, zero, rd, 0))
	case h.bit12() == 0:
		return wordR(opAlu, api.AAdd, rd, zero, rs2), true
	case rs2 == zero && rd == zero:
		return ebreak, true
	case rs2 == zero:
		return wordI(opJalr, 0, link, rd, 0), true
	}
	return wordR(opAlu, api.AAdd, rd, rd, rs2), true
}
