package capdec

// word is 32 bits that may be an instruction: its fields, and the numbers in it.
type word uint32

// field is the bits from high down to low, as a number without a sign.
func (w word) field(high, low uint) int {
	return int(w >> low & (1<<(high-low+1) - 1))
}

func (w word) op() int  { return w.field(6, 0) }
func (w word) rd() int  { return w.field(11, 7) }
func (w word) f3() int  { return w.field(14, 12) }
func (w word) rs1() int { return w.field(19, 15) }
func (w word) rs2() int { return w.field(24, 20) }
func (w word) f7() int  { return w.field(31, 25) }

// signed is a field that ends at bit 31, as a number with a sign.
func (w word) signed(low uint) int {
	return int(int32(w) >> low)
}

// immI is the number I.
func (w word) immI() int {
	return w.signed(20)
}

// immS is the number S.
func (w word) immS() int {
	return w.signed(25)<<5 | w.rd()
}
