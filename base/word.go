package base

// word is 32 bits that may be an instruction: its fields, and the numbers in it.
type word uint32

// field is the bits from high down to low, as a number without a sign.
func (w word) field(high, low uint) int {
	return int(w << (31 - high) >> (31 - high + low))
}

// above is the bits from 31 down to low, as a number with a sign.
func (w word) above(low uint) int {
	return int(int32(w) >> low)
}

func (w word) op() int  { return w.field(6, 0) }
func (w word) rd() int  { return w.field(11, 7) }
func (w word) f3() int  { return w.field(14, 12) }
func (w word) rs1() int { return w.field(19, 15) }
func (w word) rs2() int { return w.field(24, 20) }
func (w word) f7() int  { return w.field(31, 25) }

// immI is the number I.
func (w word) immI() int {
	return w.above(20)
}

// immS is the number S.
func (w word) immS() int {
	return w.above(25)<<5 | w.rd()
}

// immB is the number B.
func (w word) immB() int {
	return w.above(31)<<12 | w.field(7, 7)<<11 | w.field(30, 25)<<5 | w.field(11, 8)<<1
}

// immU is the number U.
func (w word) immU() int {
	return w.above(12) << 12
}

// immJ is the number J.
func (w word) immJ() int {
	return w.above(31)<<20 | w.field(19, 12)<<12 | w.field(20, 20)<<11 | w.field(30, 21)<<1
}
