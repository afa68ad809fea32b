package base_test

import (
	"slices"
	"strings"

	"ravelin/api"
)

// What the chapter's words and its table say of a word, bit by bit.

// row is a row of the table, of one width, function and opcode: a word's bits from the highest on (a dot: whatever it be), what it names of a word's fields, and what else its instruction has.
type row struct {
	bits  string
	names string
	x     api.Insn
}

// rows is the table.
func rows() []row {
	list := []row{
		{dots(25) + bits(0x37, 7), "rd U", api.Insn{Op: api.OLui}},
		{dots(25) + bits(0x17, 7), "rd U", api.Insn{Op: api.OAuipc}},
		{dots(25) + bits(0x6F, 7), "rd J", api.Insn{Op: api.OJal}},
		withF3(0x67, 0, "rd rs1 I", api.Insn{Op: api.OJalr}),
		withF3(0x0F, 0, "", api.Insn{Op: api.OFence}),
		withF3(0x0F, 1, "", api.Insn{Op: api.OFenceI}),
		{bits(0x73, 32), "", api.Insn{Op: api.OEcall}},
		{bits(0x100073, 32), "", api.Insn{Op: api.OEbreak}},
		{bits(0x30200073, 32), "", api.Insn{Op: api.OMret}},
		{bits(0x10200073, 32), "", api.Insn{Op: api.OSret}},
		{bits(0x10500073, 32), "", api.Insn{Op: api.OWfi}},
		{bits(9, 7) + dots(10) + bits(0, 3) + bits(0, 5) + bits(0x73, 7), "rs1 rs2", api.Insn{Op: api.OSfence}},
	}
	for _, fn := range []int{0, 1, 4, 5, 6, 7} {
		list = append(list, withF3(0x63, fn, "rs1 rs2 B", api.Insn{Op: api.OBranch, Fn: fn}))
	}
	for width := range 7 {
		list = append(list, withF3(0x03, width, "rd rs1 I", api.Insn{Op: api.OLoad, Width: width}))
	}
	for width := range 4 {
		list = append(list, withF3(0x23, width, "rs1 rs2 S", api.Insn{Op: api.OStore, Width: width}))
	}
	for _, f3 := range []int{1, 2, 3, 5, 6, 7} {
		list = append(list, withF3(0x73, f3, "rd rs1 register", api.Insn{Op: api.OCsr, Fn: f3 % 4, Use: f3 >= 5}))
	}
	return slices.Concat(list, numberRows(), registerRows(), atomicRows())
}

// numberRows is the rows of OAluImm.
func numberRows() []row {
	list := []row{withF3(0x1B, 0, "rd rs1 I", api.Insn{Op: api.OAluImm, Word: true})}
	for _, fn := range []int{0, 2, 3, 4, 6, 7} {
		list = append(list, withF3(0x13, fn, "rd rs1 I", api.Insn{Op: api.OAluImm, Fn: fn}))
	}
	for _, s := range []struct{ f3, high6, high7, fn int }{{1, 0, 0, 1}, {5, 0, 0, 5}, {5, 16, 32, 9}} {
		long, short := withF3(0x13, s.f3, "rd rs1 shift", api.Insn{}), withF3(0x1B, s.f3, "rd rs1 rs2number", api.Insn{})
		long.bits, short.bits = bits(s.high6, 6)+long.bits[6:], bits(s.high7, 7)+short.bits[7:]
		long.x, short.x = api.Insn{Op: api.OAluImm, Fn: s.fn}, api.Insn{Op: api.OAluImm, Fn: s.fn, Word: true}
		list = append(list, long, short)
	}
	return list
}

// registerRows is the rows of OAlu and OMul.
func registerRows() []row {
	var list []row
	lay := func(op, f3, f7 int, x api.Insn) {
		r := withF3(op, f3, "rd rs1 rs2", x)
		r.bits = bits(f7, 7) + r.bits[7:]
		list = append(list, r)
	}
	for f3 := range 8 {
		lay(0x33, f3, 0, api.Insn{Op: api.OAlu, Fn: f3})
		lay(0x33, f3, 1, api.Insn{Op: api.OMul, Fn: f3})
	}
	for _, f3 := range []int{0, 1, 5} {
		lay(0x3B, f3, 0, api.Insn{Op: api.OAlu, Fn: f3, Word: true})
	}
	for _, f3 := range []int{0, 4, 5, 6, 7} {
		lay(0x3B, f3, 1, api.Insn{Op: api.OMul, Fn: f3, Word: true})
	}
	for _, narrow := range []bool{false, true} {
		op := 0x33
		if narrow {
			op = 0x3B
		}
		lay(op, 0, 32, api.Insn{Op: api.OAlu, Fn: 8, Word: narrow})
		lay(op, 5, 32, api.Insn{Op: api.OAlu, Fn: 9, Word: narrow})
	}
	return list
}

// atomicRows is the rows of OLr, OSc and OAmo.
func atomicRows() []row {
	var list []row
	for _, width := range []int{2, 3} {
		low := bits(width, 3) + dots(5) + bits(0x2F, 7)
		list = append(list, row{bits(2, 5) + dots(2) + bits(0, 5) + dots(5) + low, "rd rs1", api.Insn{Op: api.OLr, Width: width}})
		list = append(list, row{bits(3, 5) + dots(12) + low, "rd rs1 rs2", api.Insn{Op: api.OSc, Width: width}})
		for _, fn := range []int{0, 1, 4, 8, 12, 16, 20, 24, 28} {
			list = append(list, row{bits(fn, 5) + dots(12) + low, "rd rs1 rs2", api.Insn{Op: api.OAmo, Fn: fn, Width: width}})
		}
	}
	return list
}

// withF3 is a row of all words of an opcode and an f3.
func withF3(op, f3 int, names string, x api.Insn) row {
	return row{dots(17) + bits(f3, 3) + dots(5) + bits(op, 7), names, x}
}

// bits is a number's lowest bits, from the highest on.
func bits(n, count int) string {
	text := ""
	for i := range count {
		text += string(rune('0' + n>>(count-1-i)&1))
	}
	return text
}

// dots is so many bits that may be whatever they are.
func dots(count int) string { return strings.Repeat(".", count) }

// span is the places from low up to high.
func span(low, high int) []int {
	var list []int
	for at := low; at <= high; at++ {
		list = append(list, at)
	}
	return list
}

// noughts is so many places of no bit.
func noughts(count int) []int { return slices.Repeat([]int{-1}, count) }

// places is where the bits of what a row names stand in a word, from its lowest one on (-1: a nought), and whether the highest is a sign.
func places(name string) ([]int, bool) {
	switch name {
	case "rd":
		return span(7, 11), false
	case "rs1":
		return span(15, 19), false
	case "rs2", "rs2number":
		return span(20, 24), false
	case "shift":
		return span(20, 25), false
	case "register":
		return span(20, 31), false
	case "I":
		return span(20, 31), true
	case "S":
		return slices.Concat(span(7, 11), span(25, 31)), true
	case "B":
		return slices.Concat(noughts(1), span(8, 11), span(25, 30), []int{7, 31}), true
	case "U":
		return slices.Concat(noughts(12), span(12, 31)), true
	case "J":
		return slices.Concat(noughts(1), span(21, 30), []int{20}, span(12, 19), []int{31}), true
	}
	panic(name)
}

// trueNumber is the number that the bits at some places of a word are.
func trueNumber(w uint32, at []int, sign bool) int {
	n := 0
	for i, place := range at {
		switch {
		case place < 0 || w>>place&1 == 0:
		case sign && i == len(at)-1:
			n -= 1 << i
		default:
			n += 1 << i
		}
	}
	return n
}

// put is a word whose bits at some places are a number's.
func put(w uint32, at []int, n int) uint32 {
	for i, place := range at {
		if place >= 0 {
			w = w&^(1<<place) | uint32(n>>i&1)<<place
		}
	}
	return w
}

// has tells whether a word is of a row.
func (r row) has(w uint32) bool {
	for i, bit := range []byte(r.bits) {
		if bit != '.' && uint32(bit-'0') != w>>(31-i)&1 {
			return false
		}
	}
	return true
}

// of is the instruction that a word of the row is.
func (r row) of(w uint32) api.Insn {
	x := r.x
	for _, name := range strings.Fields(r.names) {
		at, sign := places(name)
		n := trueNumber(w, at, sign)
		switch name {
		case "rd":
			x.Rd = n
		case "rs1":
			x.Rs1 = n
		case "rs2":
			x.Rs2 = n
		default:
			x.Imm = n
		}
	}
	x.Len, x.Raw = 4, w
	return x
}

// fixed is the word of a row whose other bits are all 0, or all 1.
func (r row) fixed(other string) uint32 {
	w := uint32(0)
	for _, bit := range strings.ReplaceAll(r.bits, ".", other) {
		w = w<<1 | uint32(bit-'0')
	}
	return w
}

// trueDecode is what Decode tells of a word, if the table is these rows.
func trueDecode(table []row, w uint32) (api.Insn, bool) {
	for _, r := range table {
		if r.has(w) {
			return r.of(w), true
		}
	}
	return api.Insn{}, false
}
