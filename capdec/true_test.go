package capdec_test

import (
	"strings"

	"ravelin/api"
)

// What the chapter's words and its table say of a word, bit by bit.

// row is a row of the table, of one function, width and opcode: a word's bits from the highest on (a dot: whatever it be), what it names of a word's fields, and what else its instruction has.
type row struct {
	bits  string
	names string
	x     api.Insn
}

// rows is the table.
func rows() []row {
	list := []row{
		{laid(0x7F, 12, -1, 0, -1, 0x5B), "rd rs1", api.Insn{Op: 26}},
		{laid(1, -1, -1, 0, -1, 0x5B), "rd rs1 rs2number", api.Insn{Op: 27}},
		{laid(-1, -1, -1, 1, -1, 0x5B), "rd rs1 I", api.Insn{Op: 25, Fn: 1}},
		{laid(-1, -1, -1, 2, -1, 0x5B), "rd rs1 upper", api.Insn{Op: 25, Fn: 2}},
		{laid(-1, -1, -1, 2, -1, 0x0F), "rd rs1 I", api.Insn{Op: 6, Width: 7}},
		{laid(-1, -1, -1, 4, -1, 0x23), "rs1 rs2 S", api.Insn{Op: 7, Width: 7}},
	}
	for _, fn := range asked() {
		list = append(list, row{laid(0x7F, fn, -1, 0, -1, 0x5B), "rd rs1", api.Insn{Op: 23, Fn: fn}})
	}
	for _, fn := range done() {
		list = append(list, row{laid(fn, -1, -1, 0, -1, 0x5B), "rd rs1 rs2", api.Insn{Op: 24, Fn: fn}})
	}
	for way := range 16 {
		list = append(list, row{laid(0x7D, way, -1, 0, -1, 0x5B), "rd rs1", api.Insn{Op: 28, Width: way % 8, Use: way >= 8}})
	}
	for _, way := range []int{0, 1, 2, 3, 7, 8, 9, 10, 11, 15} {
		list = append(list, row{laid(0x7C, -1, -1, 0, way, 0x5B), "rs1 rs2", api.Insn{Op: 29, Width: way % 8, Use: way >= 8}})
	}
	return list
}

// asked is what may be asked of a capability.
func asked() []int {
	return []int{0, 1, 2, 3, 4, 5, 6, 7, 8, 9, 10, 11, 15, 17, 24}
}

// done is what may be done with two.
func done() []int {
	return []int{8, 9, 11, 12, 13, 14, 15, 16, 17, 18, 19, 20, 29, 30, 32}
}

// laid is the bits of a word with such fields; below 0: whatever they be.
func laid(f7, rs2, rs1, f3, rd, op int) string {
	return bits(f7, 7) + bits(rs2, 5) + bits(rs1, 5) + bits(f3, 3) + bits(rd, 5) + bits(op, 7)
}

// bits is a number's lowest bits, from the highest on; below 0: dots.
func bits(n, count int) string {
	if n < 0 {
		return strings.Repeat(".", count)
	}
	text := ""
	for i := range count {
		text += string(rune('0' + n>>(count-1-i)&1))
	}
	return text
}

// filled is the word of a row whose other bits are all 0, or all 1.
func (r row) filled(other string) uint32 {
	w := uint32(0)
	for _, bit := range strings.ReplaceAll(r.bits, ".", other) {
		w = w<<1 | uint32(bit-'0')
	}
	return w
}

// places is where the bits of what a row names stand in a word, from its lowest one on, and whether the highest is a sign.
func places(name string) ([]int, bool) {
	switch name {
	case "rd":
		return []int{7, 8, 9, 10, 11}, false
	case "rs1":
		return []int{15, 16, 17, 18, 19}, false
	case "rs2", "rs2number":
		return []int{20, 21, 22, 23, 24}, false
	case "I":
		return []int{20, 21, 22, 23, 24, 25, 26, 27, 28, 29, 30, 31}, true
	case "upper":
		return []int{20, 21, 22, 23, 24, 25, 26, 27, 28, 29, 30, 31}, false
	case "S":
		return []int{7, 8, 9, 10, 11, 25, 26, 27, 28, 29, 30, 31}, true
	}
	panic(name)
}

// isNumber tells of what a row names whether it is the instruction's number.
func isNumber(name string) bool {
	return name != "rd" && name != "rs1" && name != "rs2"
}

// trueNumber is the number that the bits at some places of a word are.
func trueNumber(w uint32, at []int, sign bool) int {
	n := 0
	for i, place := range at {
		weight := 1 << i
		if sign && i == len(at)-1 {
			weight = -weight
		}
		if w>>place&1 == 1 {
			n += weight
		}
	}
	return n
}

// put is a word whose bits at some places are a number's.
func put(w uint32, at []int, n int) uint32 {
	for i, place := range at {
		w = w&^(1<<place) | uint32(n>>i&1)<<place
	}
	return w
}

// of is the instruction that a word of the row is.
func (r row) of(w uint32) api.Insn {
	x := r.x
	for _, name := range strings.Fields(r.names) {
		at, sign := places(name)
		n := trueNumber(w, at, sign)
		switch name {
		case "rd":
			x.Rd = n
		case "rs1":
			x.Rs1 = n
		case "rs2":
			x.Rs2 = n
		default:
			x.Imm = n
		}
	}
	x.Len, x.Raw = 4, w
	return x
}

// sieve is a row, and the words that it has: those whose bits at the mask are the row's.
type sieve struct {
	row         row
	mask, fixed uint32
}

// sieves is the table, made for many words.
func sieves() []sieve {
	var list []sieve
	for _, r := range rows() {
		low, high := r.filled("0"), r.filled("1")
		list = append(list, sieve{r, ^(low ^ high), low})
	}
	return list
}

// trueDecode is what Decode tells of a word, if the table is these rows.
func trueDecode(table []sieve, w uint32) (api.Insn, bool) {
	for _, s := range table {
		if w&s.mask == s.fixed {
			return s.row.of(w), true
		}
	}
	return api.Insn{}, false
}
