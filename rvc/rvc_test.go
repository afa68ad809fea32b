package rvc_test

import (
	"slices"
	"testing"

	"ravelin/api"
	"ravelin/base"
	"ravelin/rvc"
)

// held holds what is told of a half against what it should be, and tells whether that is so.
func held(t *testing.T, h uint16, want uint32, stands bool) bool {
	t.Helper()
	got, ok := rvc.Expand(h)
	if got != want || ok != stands {
		t.Errorf("%04X: %08X, %v; want %08X, %v", h, got, ok, want, stands)
		return false
	}
	return true
}

// is holds a half against a word.
func is(t *testing.T, h uint16, w uint32) bool {
	t.Helper()
	return held(t, h, w, true)
}

// isNone holds a half against there being none.
func isNone(t *testing.T, h uint16) bool {
	t.Helper()
	return held(t, h, 0, false)
}

// P8.1, P8.2: the chapter's examples.
func TestExpandExamples(t *testing.T) {
	is(t, 0x0001, 0x00000013)
	is(t, 0x4501, 0x00000513)
	is(t, 0x8082, 0x00008067)
	is(t, 0x9002, 0x00100073)
	isNone(t, 0x0000)
	isNone(t, 0xFFFF)
}

// P8.1: halves, and the words beside them, as the manual's assembler lays both.
func TestExpandOfTheManual(t *testing.T) {
	for _, l := range slices.Concat(lowest0(), lowest1(), lowest2()) {
		is(t, l.h, l.w)
	}
}

// P8.1, P8.2: all halves, by the table.
func TestExpandAsTold(t *testing.T) {
	table, wrong := lines(), 0
	for h := range 1 << 16 {
		want, stands := trueExpand(table, h)
		if held(t, uint16(h), want, stands) {
			continue
		}
		if wrong++; wrong == 20 {
			t.Fatal("and maybe more")
		}
	}
}

// P8.1: each number at its least, its greatest, and bit by bit, in the halves whose other bits are 0: the instruction has it.
func TestNumbersAtTheirEnds(t *testing.T) {
	for _, x := range []struct {
		h     uint16   // its number is 0
		from  []int    // where the number's bits stand, from the lowest on
		to    []int    // which these are
		names api.Insn // what else the instruction has
	}{
		{0x0000, []int{6, 5, 11, 12, 7, 8, 9, 10}, []int{2, 3, 4, 5, 6, 7, 8, 9}, api.Insn{Op: api.OAluImm, Rd: 8, Rs1: 2}},
		{0x4000, []int{6, 10, 11, 12, 5}, []int{2, 3, 4, 5, 6}, api.Insn{Op: api.OLoad, Width: api.Wide, Rd: 8, Rs1: 8}},
		{0x6000, []int{10, 11, 12, 5, 6}, []int{3, 4, 5, 6, 7}, api.Insn{Op: api.OLoad, Width: api.Long, Rd: 8, Rs1: 8}},
		{0xC000, []int{6, 10, 11, 12, 5}, []int{2, 3, 4, 5, 6}, api.Insn{Op: api.OStore, Width: api.Wide, Rs1: 8, Rs2: 8}},
		{0xE000, []int{10, 11, 12, 5, 6}, []int{3, 4, 5, 6, 7}, api.Insn{Op: api.OStore, Width: api.Long, Rs1: 8, Rs2: 8}},
		{0x8001, []int{2, 3, 4, 5, 6, 12}, []int{0, 1, 2, 3, 4, 5}, api.Insn{Op: api.OAluImm, Fn: api.ASrl, Rd: 8, Rs1: 8}},
		{0x8401, []int{2, 3, 4, 5, 6, 12}, []int{0, 1, 2, 3, 4, 5}, api.Insn{Op: api.OAluImm, Fn: api.ASra, Rd: 8, Rs1: 8}},
		{0x0002, []int{2, 3, 4, 5, 6, 12}, []int{0, 1, 2, 3, 4, 5}, api.Insn{Op: api.OAluImm, Fn: api.ASll}},
		{0x4082, []int{4, 5, 6, 12, 2, 3}, []int{2, 3, 4, 5, 6, 7}, api.Insn{Op: api.OLoad, Width: api.Wide, Rd: 1, Rs1: 2}},
		{0x6082, []int{5, 6, 12, 2, 3, 4}, []int{3, 4, 5, 6, 7, 8}, api.Insn{Op: api.OLoad, Width: api.Long, Rd: 1, Rs1: 2}},
		{0xC002, []int{9, 10, 11, 12, 7, 8}, []int{2, 3, 4, 5, 6, 7}, api.Insn{Op: api.OStore, Width: api.Wide, Rs1: 2}},
		{0xE002, []int{10, 11, 12, 7, 8, 9}, []int{3, 4, 5, 6, 7, 8}, api.Insn{Op: api.OStore, Width: api.Long, Rs1: 2}},
	} {
		h, n := x.h, 0
		for i, from := range x.from {
			has(t, x.h|1<<from, x.names, 1<<x.to[i])
			h, n = h|1<<from, n|1<<x.to[i]
		}
		has(t, h, x.names, n)
		if x.h != 0 {
			has(t, x.h, x.names, 0)
		}
	}
}

// P8.1: likewise those with a sign.
func TestSignedNumbersAtTheirEnds(t *testing.T) {
	for _, x := range []struct {
		h     uint16
		from  []int // the last is the sign
		to    []int
		names api.Insn
	}{
		{0x0081, []int{2, 3, 4, 5, 6, 12}, []int{0, 1, 2, 3, 4, 5}, api.Insn{Op: api.OAluImm, Rd: 1, Rs1: 1}},
		{0x2081, []int{2, 3, 4, 5, 6, 12}, []int{0, 1, 2, 3, 4, 5}, api.Insn{Op: api.OAluImm, Word: true, Rd: 1, Rs1: 1}},
		{0x4081, []int{2, 3, 4, 5, 6, 12}, []int{0, 1, 2, 3, 4, 5}, api.Insn{Op: api.OAluImm, Rd: 1}},
		{0x6101, []int{6, 2, 5, 3, 4, 12}, []int{4, 5, 6, 7, 8, 9}, api.Insn{Op: api.OAluImm, Rd: 2, Rs1: 2}},
		{0x6081, []int{2, 3, 4, 5, 6, 12}, []int{12, 13, 14, 15, 16, 17}, api.Insn{Op: api.OLui, Rd: 1}},
		{0x8801, []int{2, 3, 4, 5, 6, 12}, []int{0, 1, 2, 3, 4, 5}, api.Insn{Op: api.OAluImm, Fn: api.AAnd, Rd: 8, Rs1: 8}},
		{0xA001, []int{3, 4, 5, 11, 2, 7, 6, 9, 10, 8, 12}, []int{1, 2, 3, 4, 5, 6, 7, 8, 9, 10, 11}, api.Insn{Op: api.OJal}},
		{0xC001, []int{3, 4, 10, 11, 2, 5, 6, 12}, []int{1, 2, 3, 4, 5, 6, 7, 8}, api.Insn{Op: api.OBranch, Fn: api.BEq, Rs1: 8}},
		{0xE001, []int{3, 4, 10, 11, 2, 5, 6, 12}, []int{1, 2, 3, 4, 5, 6, 7, 8}, api.Insn{Op: api.OBranch, Fn: api.BNe, Rs1: 8}},
	} {
		greatest, n := x.h, 0
		sign := len(x.from) - 1
		for i, from := range x.from[:sign] {
			has(t, x.h|1<<from, x.names, 1<<x.to[i])
			greatest, n = greatest|1<<from, n|1<<x.to[i]
		}
		has(t, greatest, x.names, n)
		has(t, x.h|1<<x.from[sign], x.names, -1<<x.to[sign])
		has(t, greatest|1<<x.from[sign], x.names, -1<<x.to[0])
	}
}

// has holds what base tells of the word for which a half stands against an instruction with a number.
func has(t *testing.T, h uint16, want api.Insn, n int) {
	t.Helper()
	w, stands := rvc.Expand(h)
	got, known := base.Decode(w)
	want.Imm, want.Len, want.Raw = n, 4, w
	if !stands || !known || got != want {
		t.Errorf("%04X: %08X, %v: %+v, %v; want %+v", h, w, stands, got, known, want)
	}
}

// P8.1: what is barred stands for none, and what is beside it for one.
func TestBarred(t *testing.T) {
	for register := range uint16(32) {
		rd := register << 7
		for number := range uint16(64) {
			n := number&31<<2 | number>>5<<12
			for _, row := range []uint16{0x2001, 0x4002, 0x6002} {
				if _, ok := rvc.Expand(row | rd | n); ok != (rd != 0) {
					t.Errorf("%04X: %v", row|rd|n, ok)
				}
			}
			if _, ok := rvc.Expand(0x6001 | rd | n); ok != (n != 0) {
				t.Errorf("%04X: %v", 0x6001|rd|n, ok)
			}
		}
		if _, ok := rvc.Expand(0x8002 | rd); ok != (rd != 0) {
			t.Errorf("%04X: %v", 0x8002|rd, ok)
		}
	}
	for near := range uint16(8) {
		isNone(t, near<<2)
		is(t, 0x0040|near<<2, 4<<20|2<<15|uint32(8+near)<<7|0x13)
		for other := range uint16(8) {
			for _, row := range []uint16{0x9C41, 0x9C61} {
				isNone(t, row|near<<7|other<<2)
			}
		}
	}
}

// P8.1: what the manual keeps as a hint, and the chapter does not bar, stands for what its row says.
func TestNotBarred(t *testing.T) {
	is(t, 0x0005, 0x00100013) // addi x0, x0, 1
	is(t, 0x0081, 0x00008093) // addi x1, x1, 0
	is(t, 0x4005, 0x00100013) // addi x0, x0, 1
	is(t, 0x6005, 0x00001037) // lui x0, 4096
	is(t, 0x8001, 0x00045413) // srli x8, x8, 0
	is(t, 0x8401, 0x40045413) // srai x8, x8, 0
	is(t, 0x0002, 0x00001013) // slli x0, x0, 0
	is(t, 0x0082, 0x00009093) // slli x1, x1, 0
	is(t, 0x8006, 0x00100033) // add x0, x0, x1
	is(t, 0x9006, 0x00100033) // add x0, x0, x1
	is(t, 0x2081, 0x0000809B) // addiw x1, x1, 0
	is(t, 0xC002, 0x00012023) // sw x0, 0(x2)
	is(t, 0xE002, 0x00013023) // sd x0, 0(x2)
}

// P8.1: rows that the table has not: of these lowest and highest bits no half stands for any.
func TestNoRow(t *testing.T) {
	for _, row := range [][2]uint16{{0, 1}, {0, 4}, {0, 5}, {2, 1}, {2, 5}} {
		for between := range uint16(1 << 11) {
			isNone(t, row[1]<<13|between<<2|row[0])
		}
	}
}

// P8.2: none of the lowest two bits 3 stands for any; nor does 0.
func TestLongOnesStandForNone(t *testing.T) {
	for rest := range uint16(1 << 14) {
		isNone(t, rest<<2|3)
	}
	isNone(t, 0)
}

// P8.3: what is told has 3 in its lowest two bits, and base knows it; and it is of the instructions that the table has.
func TestToldIsKnown(t *testing.T) {
	count := 0
	for h := range 1 << 16 {
		w, ok := rvc.Expand(uint16(h))
		if !ok {
			continue
		}
		count++
		x, known := base.Decode(w)
		if w&3 != 3 || !known || x.Op > api.OEbreak || x.Op == api.OIllegal {
			t.Errorf("%04X: %08X: %+v, %v", h, w, x, known)
		}
	}
	if count != 38551 {
		t.Errorf("%d halves stand for any", count)
	}
}

// alike tells of a word whether two halves may stand for it.
func alike(w uint32) bool {
	x, _ := base.Decode(w)
	toNothing := x.Rd == 0 && x.Rs1 == 0
	switch {
	case x.Op == api.OAluImm && x.Fn == api.AAdd && !x.Word:
		return toNothing || x.Rd == 2 && x.Rs1 == 2 && (x.Imm == -32 || x.Imm == -16 || x.Imm == 16)
	case x.Op == api.OAlu && x.Fn == api.AAdd && !x.Word:
		return toNothing
	}
	return false
}

// P8.4: one half stands for each, but two for such as the chapter names.
func TestUnlikeHalvesAreApart(t *testing.T) {
	halves := map[uint32][]uint16{}
	for h := range 1 << 16 {
		if w, ok := rvc.Expand(uint16(h)); ok {
			halves[w] = append(halves[w], uint16(h))
		}
	}
	doubled := 0
	for w, list := range halves {
		want := 1
		if alike(w) {
			want = 2
			doubled++
		}
		if len(list) != want {
			t.Errorf("%08X: %04X; there should be %d", w, list, want)
		}
	}
	// 64 numbers to x0, 31 registers to x0, and three to x2.
	if doubled != 64+31+3 {
		t.Errorf("two stand for each of %d", doubled)
	}
}

// R4: a half asked again, behind others, is told as before.
func TestExpandAgain(t *testing.T) {
	var first [1 << 16]uint32
	for h := range first {
		first[h], _ = rvc.Expand(uint16(h))
	}
	for h := len(first) - 1; h >= 0; h-- {
		if w, ok := rvc.Expand(uint16(h)); w != first[h] || ok != (w != 0) {
			t.Fatalf("%04X: %08X, then %08X, %v", h, first[h], w, ok)
		}
	}
}
