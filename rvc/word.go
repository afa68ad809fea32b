package rvc

// The opcodes of words for which halves stand.
const (
	opLoad       = 0x03
	opAluImm     = 0x13
	opAluImmWord = 0x1B
	opStore      = 0x23
	opAlu        = 0x33
	opLui        = 0x37
	opAluWord    = 0x3B
	opBranch     = 0x63
	opJalr       = 0x67
	opJal        = 0x6F
)

// ebreak is a word as a whole.
const ebreak = 0x00100073

// variant is the bit by which a word subtracts, or moves bits with a sign.
const variant = 1 << 30

// The forms of words that have a number: the rows of inWord.
const (
	formI = iota
	formS
	formB
	formU
	formJ
)

// inWord is, of each form, which of its number's bits the word's bits 31 to 7 are.
var inWord = [...][25]int8{
	formI: {11, 10, 9, 8, 7, 6, 5, 4, 3, 2, 1, 0, no, no, no, no, no, no, no, no, no, no, no, no, no},
	formS: {11, 10, 9, 8, 7, 6, 5, no, no, no, no, no, no, no, no, no, no, no, no, no, 4, 3, 2, 1, 0},
	formB: {12, 10, 9, 8, 7, 6, 5, no, no, no, no, no, no, no, no, no, no, no, no, no, 4, 3, 2, 1, 11},
	formU: {31, 30, 29, 28, 27, 26, 25, 24, 23, 22, 21, 20, 19, 18, 17, 16, 15, 14, 13, 12, no, no, no, no, no},
	formJ: {20, 10, 9, 8, 7, 6, 5, 4, 3, 2, 1, 11, 19, 18, 17, 16, 15, 14, 13, 12, no, no, no, no, no},
}

// lay is a word with nothing but a number's bits, where a form has them.
func lay(form int, n uint32) uint32 {
	w := uint32(0)
	for i, from := range inWord[form] {
		if from != no {
			w |= n >> from & 1 << (31 - i)
		}
	}
	return w
}

// wordR is a word of three registers.
func wordR(op, f3, rd, rs1, rs2 uint32) uint32 {
	return rs2<<20 | rs1<<15 | f3<<12 | rd<<7 | op
}

// wordI is a word of two registers and a number of the form I.
func wordI(op, f3, rd, rs1, n uint32) uint32 {
	return wordR(op, f3, rd, rs1, 0) | lay(formI, n)
}

// wordSB is a word of two registers and a number of the form S or B, that writes no register.
func wordSB(op uint32, form int, f3, rs1, rs2, n uint32) uint32 {
	return wordR(op, f3, 0, rs1, rs2) | lay(form, n)
}

// wordUJ is a word of a register and a number of the form U or J.
func wordUJ(op uint32, form int, rd, n uint32) uint32 {
	return wordR(op, 0, rd, 0, 0) | lay(form, n)
}
