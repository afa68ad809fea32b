package rvc_test

import (
	"strconv"
	"strings"
)

// The chapter's table, as text, and what it says of a half: worked out from the words of the table, bit by bit, by an assembler of one line.

// line is a row of the chapter's table.
type line struct {
	low, high int
	fits      func(h int) bool // nil: each half
	stands    string
	n         string // where the number's bits stand
	sign      bool
	bar       func(h, n int) bool // nil: none
}

// The numbers that several rows have.
const (
	ofSix    = "n[5] at 12, n[4:0] at 6:2"
	ofWides  = "n[5:3] at 12:10, n[2|6] at 6:5"
	ofLongs  = "n[5:3] at 12:10, n[7:6] at 6:5"
	ofBranch = "n[8|4:3] at 12:10, n[7:6|2:1|5] at 6:2"
)

// between is the bits from high down to low.
func between(h, high, low int) int { return h >> low & (1<<(high-low+1) - 1) }

func noRd(h, _ int) bool     { return between(h, 11, 7) == 0 }
func noNumber(_, n int) bool { return n == 0 }

// bitsAre tells of the bits from high down to low whether they are so much.
func bitsAre(high, low, n int) func(h int) bool {
	return func(h int) bool { return between(h, high, low) == n }
}

// all tells whether all of that is so.
func all(list ...func(h int) bool) func(h int) bool {
	return func(h int) bool {
		for _, f := range list {
			if !f(h) {
				return false
			}
		}
		return true
	}
}

// not tells whether that is not so.
func not(f func(h int) bool) func(h int) bool {
	return func(h int) bool { return !f(h) }
}

// lines is the chapter's table.
func lines() []line {
	clear, set := bitsAre(12, 12, 0), bitsAre(12, 12, 1)
	noRs2, noRegister := bitsAre(6, 2, 0), bitsAre(11, 7, 0)
	pair := bitsAre(11, 10, 3)
	return []line{
		{0, 0, nil, "addi rs2', x2, n", "n[5:4|9:6|2|3] at 12:5", false, noNumber},
		{0, 2, nil, "lw rs2', n(rd')", ofWides, false, nil},
		{0, 3, nil, "ld rs2', n(rd')", ofLongs, false, nil},
		{0, 6, nil, "sw rs2', n(rd')", ofWides, false, nil},
		{0, 7, nil, "sd rs2', n(rd')", ofLongs, false, nil},
		{1, 0, nil, "addi rd, rd, n", ofSix, true, nil},
		{1, 1, nil, "addiw rd, rd, n", ofSix, true, noRd},
		{1, 2, nil, "addi rd, x0, n", ofSix, true, nil},
		{1, 3, bitsAre(11, 7, 2), "addi x2, x2, n", "n[9] at 12, n[4|6|8:7|5] at 6:2", true, noNumber},
		{1, 3, not(bitsAre(11, 7, 2)), "lui rd, n", "n[17] at 12, n[16:12] at 6:2", true, noNumber},
		{1, 4, bitsAre(11, 10, 0), "srli rd', rd', n", ofSix, false, nil},
		{1, 4, bitsAre(11, 10, 1), "srai rd', rd', n", ofSix, false, nil},
		{1, 4, bitsAre(11, 10, 2), "andi rd', rd', n", ofSix, true, nil},
		{1, 4, all(pair, clear, bitsAre(6, 5, 0)), "sub rd', rd', rs2'", "", false, nil},
		{1, 4, all(pair, clear, bitsAre(6, 5, 1)), "xor rd', rd', rs2'", "", false, nil},
		{1, 4, all(pair, clear, bitsAre(6, 5, 2)), "or rd', rd', rs2'", "", false, nil},
		{1, 4, all(pair, clear, bitsAre(6, 5, 3)), "and rd', rd', rs2'", "", false, nil},
		{1, 4, all(pair, set, bitsAre(6, 5, 0)), "subw rd', rd', rs2'", "", false, nil},
		{1, 4, all(pair, set, bitsAre(6, 5, 1)), "addw rd', rd', rs2'", "", false, nil},
		{1, 5, nil, "jal x0, n", "n[11|4|9:8|10|6|7|3:1|5] at 12:2", true, nil},
		{1, 6, nil, "beq rd', x0, n", ofBranch, true, nil},
		{1, 7, nil, "bne rd', x0, n", ofBranch, true, nil},
		{2, 0, nil, "slli rd, rd, n", ofSix, false, nil},
		{2, 2, nil, "lw rd, n(x2)", "n[5] at 12, n[4:2|7:6] at 6:2", false, noRd},
		{2, 3, nil, "ld rd, n(x2)", "n[5] at 12, n[4:3|8:6] at 6:2", false, noRd},
		{2, 4, all(clear, noRs2), "jalr x0, 0(rd)", "", false, noRd},
		{2, 4, all(clear, not(noRs2)), "add rd, x0, rs2", "", false, nil},
		{2, 4, all(set, noRs2, noRegister), "ebreak", "", false, nil},
		{2, 4, all(set, noRs2, not(noRegister)), "jalr x1, 0(rd)", "", false, nil},
		{2, 4, all(set, not(noRs2)), "add rd, rd, rs2", "", false, nil},
		{2, 6, nil, "sw rs2, n(x2)", "n[5:2|7:6] at 12:7", false, nil},
		{2, 7, nil, "sd rs2, n(x2)", "n[5:3|8:6] at 12:7", false, nil},
	}
}

// number is what a text is, of digits.
func number(text string) int {
	n, err := strconv.Atoi(text)
	if err != nil {
		panic(text)
	}
	return n
}

// places is the bits that a text such as 5:3|2 names, in its order.
func places(text string) []int {
	var list []int
	for _, part := range strings.Split(text, "|") {
		high, low, many := strings.Cut(part, ":")
		if !many {
			low = high
		}
		for at := number(high); at >= number(low); at-- {
			list = append(list, at)
		}
	}
	return list
}

// trueNumber is a half's number, whose bits stand as a text says.
func trueNumber(h int, text string, sign bool) int {
	n, top := 0, 0
	for _, part := range strings.Split(text, ", ") {
		if part == "" {
			break
		}
		left, right, _ := strings.Cut(strings.TrimPrefix(part, "n["), "] at ")
		to, from := places(left), places(right)
		if len(to) != len(from) {
			panic(text)
		}
		for i := range to {
			n += h >> from[i] & 1 << to[i]
			top = max(top, to[i])
		}
	}
	if sign && n >= 1<<top {
		n -= 2 << top
	}
	return n
}

// has tells whether a half is of the row.
func (l line) has(h int) bool {
	return between(h, 1, 0) == l.low && between(h, 15, 13) == l.high && (l.fits == nil || l.fits(h))
}

// of is the word for which a half of the row stands; false: it is barred.
func (l line) of(h int) (uint32, bool) {
	n := trueNumber(h, l.n, l.sign)
	if l.bar != nil && l.bar(h, n) {
		return 0, false
	}
	values := map[string]int{
		"n": n, "0": 0, "x0": 0, "x1": 1, "x2": 2,
		"rd": between(h, 11, 7), "rs2": between(h, 6, 2),
		"rd'": 8 + between(h, 9, 7), "rs2'": 8 + between(h, 4, 2),
	}
	name, rest, _ := strings.Cut(l.stands, " ")
	var args []int
	for _, arg := range strings.FieldsFunc(rest, func(r rune) bool { return strings.ContainsRune(", ()", r) }) {
		v, ok := values[arg]
		if !ok {
			panic(arg)
		}
		args = append(args, v)
	}
	return assemble(name, append(args, 0, 0, 0)), true
}

// assemble is the word of a line of the published manual's assembler; lui's number is the whole one.
func assemble(name string, args []int) uint32 {
	a, b, c := args[0], args[1], args[2]
	ofI := func(op, f3, rd, rs, n int) int { return n&0xFFF<<20 + rs<<15 + f3<<12 + rd<<7 + op }
	ofS := func(f3, rs1, rs2, n int) int {
		return between(n, 11, 5)<<25 + rs2<<20 + rs1<<15 + f3<<12 + between(n, 4, 0)<<7 + 0x23
	}
	ofB := func(f3, rs1, rs2, n int) int {
		return between(n, 12, 12)<<31 + between(n, 10, 5)<<25 + rs2<<20 + rs1<<15 + f3<<12 + between(n, 4, 1)<<8 + between(n, 11, 11)<<7 + 0x63
	}
	ofR := func(op, f3, f7 int) int { return f7<<25 + c<<20 + b<<15 + f3<<12 + a<<7 + op }
	w := map[string]int{
		"addi": ofI(0x13, 0, a, b, c), "andi": ofI(0x13, 7, a, b, c), "addiw": ofI(0x1B, 0, a, b, c),
		"slli": ofI(0x13, 1, a, b, c), "srli": ofI(0x13, 5, a, b, c), "srai": ofI(0x13, 5, a, b, c+16<<6),
		"lw": ofI(0x03, 2, a, c, b), "ld": ofI(0x03, 3, a, c, b), "jalr": ofI(0x67, 0, a, c, b),
		"sw": ofS(2, c, a, b), "sd": ofS(3, c, a, b),
		"beq": ofB(0, a, b, c), "bne": ofB(1, a, b, c),
		"add": ofR(0x33, 0, 0), "sub": ofR(0x33, 0, 32), "xor": ofR(0x33, 4, 0), "or": ofR(0x33, 6, 0), "and": ofR(0x33, 7, 0),
		"addw": ofR(0x3B, 0, 0), "subw": ofR(0x3B, 0, 32),
		"lui":    between(b, 31, 12)<<12 + a<<7 + 0x37,
		"jal":    between(b, 20, 20)<<31 + between(b, 10, 1)<<21 + between(b, 11, 11)<<20 + between(b, 19, 12)<<12 + a<<7 + 0x6F,
		"ebreak": 0x00100073,
	}
	if _, ok := w[name]; !ok {
		panic(name)
	}
	return uint32(w[name])
}

// trueExpand is what Expand tells of a half, if the table is these lines.
func trueExpand(table []line, h int) (uint32, bool) {
	for _, l := range table {
		if l.has(h) {
			return l.of(h)
		}
	}
	return 0, false
}
