package rvc

// half is 16 bits that may stand for an instruction: its fields, and the numbers in it.
type half uint16

// The kinds of numbers in halves: the rows of inHalf.
const (
	small     = iota // of instructions on numbers
	upper            // of lui
	frame            // what is added to the stack's register
	place            // behind the stack's register
	nearWide         // behind a near register, as of lw and sw
	nearLong         // likewise, as of ld and sd
	loadWide         // behind the stack's register, as of lw
	loadLong         // as of ld
	storeWide        // as of sw
	storeLong        // as of sd
	jumping          // of jal
	branching        // of beq and bne
)

// no is where a bit has no place.
const no = -1

// inHalf is, of each kind of number, which of its bits the half's bits 12 to 2 are. Of one with a sign its highest bit is the first.
var inHalf = [...][11]int8{
	small:     {5, no, no, no, no, no, 4, 3, 2, 1, 0},
	upper:     {17, no, no, no, no, no, 16, 15, 14, 13, 12},
	frame:     {9, no, no, no, no, no, 4, 6, 8, 7, 5},
	place:     {5, 4, 9, 8, 7, 6, 2, 3, no, no, no},
	nearWide:  {5, 4, 3, no, no, no, 2, 6, no, no, no},
	nearLong:  {5, 4, 3, no, no, no, 7, 6, no, no, no},
	loadWide:  {5, no, no, no, no, no, 4, 3, 2, 7, 6},
	loadLong:  {5, no, no, no, no, no, 4, 3, 8, 7, 6},
	storeWide: {5, 4, 3, 2, 7, 6, no, no, no, no, no},
	storeLong: {5, 4, 3, 8, 7, 6, no, no, no, no, no},
	jumping:   {11, 4, 9, 8, 10, 6, 7, 3, 2, 1, 5},
	branching: {8, 4, 3, no, no, no, 7, 6, 2, 1, 5},
}

// field is the bits from high down to low.
func (h half) field(high, low uint) uint32 {
	return uint32(h << (15 - high) >> (15 - high + low))
}

func (h half) low() uint32   { return h.field(1, 0) }
func (h half) high() uint32  { return h.field(15, 13) }
func (h half) bit12() uint32 { return h.field(12, 12) }

// rd and rs2 are registers; those near are from 8 to 15.
func (h half) rd() uint32      { return h.field(11, 7) }
func (h half) rs2() uint32     { return h.field(6, 2) }
func (h half) nearRd() uint32  { return 8 + h.field(9, 7) }
func (h half) nearRs2() uint32 { return 8 + h.field(4, 2) }

// number is the half's number of that kind, without a sign.
func (h half) number(kind int) uint32 {
	n := uint32(0)
	for i, to := range inHalf[kind] {
		if to != no {
			n |= uint32(h) >> (12 - i) & 1 << to
		}
	}
	return n
}

// signed is the half's number of that kind, with a sign.
func (h half) signed(kind int) uint32 {
	above := 31 - inHalf[kind][0]
	return uint32(int32(h.number(kind)<<above) >> above)
}
