package base_test

import (
	"math"
	"slices"
	"strings"
	"testing"

	"ravelin/api"
	"ravelin/base"
)

// held holds what is told of a word against what it should be, and tells whether that is so.
func held(t *testing.T, w uint32, want api.Insn, known bool) bool {
	t.Helper()
	got, ok := base.Decode(w)
	if got != want || ok != known {
		t.Errorf("%08X: %+v, %v; want %+v, %v", w, got, ok, want, known)
		return false
	}
	return true
}

// is holds a word against an instruction.
func is(t *testing.T, w uint32, x api.Insn) bool {
	t.Helper()
	x.Len, x.Raw = 4, w
	return held(t, w, x, true)
}

// isNone holds a word against there being none.
func isNone(t *testing.T, w uint32) bool {
	t.Helper()
	return held(t, w, api.Insn{}, false)
}

// asTold holds words against the table, until too many of them are not as it says.
func asTold(t *testing.T, words []uint32) {
	t.Helper()
	table, wrong := rows(), 0
	for _, w := range words {
		want, known := trueDecode(table, w)
		if held(t, w, want, known) {
			continue
		}
		if wrong++; wrong == 20 {
			t.Fatal("and maybe more")
		}
	}
}

// mixed is words that look like chance, and are the same each time.
func mixed(count int) []uint32 {
	list := make([]uint32, count)
	state := uint64(7)
	for i := range list {
		state += 0x9E3779B97F4A7C15
		z := (state ^ state>>30) * 0xBF58476D1CE4E5B9
		z = (z ^ z>>27) * 0x94D049BB133111EB
		list[i] = uint32(z >> 32)
	}
	return list
}

// opcodes is those that the table has.
func opcodes() []uint32 {
	return []uint32{0x03, 0x0F, 0x13, 0x17, 0x1B, 0x23, 0x2F, 0x33, 0x37, 0x3B, 0x63, 0x67, 0x6F, 0x73}
}

// flipped is a word with each one of its bits turned.
func flipped(w uint32) []uint32 {
	list := make([]uint32, 32)
	for bit := range list {
		list[bit] = w ^ 1<<bit
	}
	return list
}

// P7.1: the chapter's examples.
func TestDecodeExamples(t *testing.T) {
	is(t, 0x00A00513, api.Insn{Op: api.OAluImm, Fn: 0, Rd: 10, Imm: 10})
	is(t, 0xFE000EE3, api.Insn{Op: api.OBranch, Fn: 0, Imm: -4})
	is(t, 0x0042B303, api.Insn{Op: api.OLoad, Width: 3, Rd: 6, Rs1: 5, Imm: 4})
	isNone(t, 0)
	isNone(t, 0xFFFFFFFF)
}

// P7.1: words as the manual's assembler lays them.
func TestDecodeOfTheManual(t *testing.T) {
	for _, l := range slices.Concat(upperAndJumps(), memory(), numbers(), registers(), rest(), atomics()) {
		is(t, l.w, l.x)
	}
}

// P7.1: all f3 and f7 of all opcodes of the table, with registers about their ends.
func TestDecodeOfAllFunctions(t *testing.T) {
	var words []uint32
	for _, op := range opcodes() {
		for functions := range uint32(1 << 10) {
			for _, regs := range [][3]uint32{{0, 0, 0}, {31, 31, 31}, {0, 31, 0}, {31, 0, 1}, {0, 0, 2}, {1, 16, 5}, {16, 8, 0}, {5, 21, 16}} {
				words = append(words, functions>>3<<25|regs[2]<<20|regs[1]<<15|functions&7<<12|regs[0]<<7|op)
			}
		}
	}
	asTold(t, words)
}

// P7.1: the words of each row that have nothing but noughts, or ones, where it leaves bits open, and all words one bit off these.
func TestDecodeOneBitOff(t *testing.T) {
	var words []uint32
	for _, r := range rows() {
		for _, other := range []string{"0", "1"} {
			w := r.fixed(other)
			words = append(append(words, w), flipped(w)...)
		}
	}
	asTold(t, words)
}

// P7.1: words of all sorts, with each opcode of the table, and as they come.
func TestDecodeMixed(t *testing.T) {
	words := mixed(60000)
	known := opcodes()
	for i, w := range words[:40000] {
		words[i] = w&^0x7F | known[i%len(known)]
	}
	asTold(t, words)
}

// P7.1: each number with a sign at its least, its greatest, at -1, 0, and bit by bit, in each row that names one; those without a sign likewise.
func TestNumbersAtTheirEnds(t *testing.T) {
	for _, r := range rows() {
		for _, name := range strings.Fields(r.names) {
			if strings.HasPrefix(name, "r") && name != "rs2number" && name != "register" {
				continue
			}
			at, sign := places(name)
			first, width := 0, len(at)
			for at[first] < 0 {
				first++
			}
			list := []int{0, 1<<width - 1<<first}
			if sign {
				list = []int{0, -1 << (width - 1), 1<<(width-1) - 1<<first, -1 << first}
			}
			for bit := first; bit < width-1; bit++ {
				list = append(list, 1<<bit)
			}
			for _, n := range list {
				for _, other := range []string{"0", "1"} {
					w := put(r.fixed(other), at, n)
					if x, ok := base.Decode(w); !ok || x.Imm != n || x.Op != r.x.Op {
						t.Errorf("%08X: %+v, %v; its %s is %d", w, x, ok, name, n)
					}
				}
			}
		}
	}
}

// P7.1: of the numbers, as the chapter tells where their bits stand: the least, the greatest, and -1, or -2 where it ends with a nought, -4096 where with twelve.
func TestNumbersAsWords(t *testing.T) {
	for _, x := range []struct {
		least, greatest, minus uint32
		want                   [3]int
	}{
		{0x80000013, 0x7FF00013, 0xFFF00013, [3]int{-2048, 2047, -1}},
		{0x80000023, 0x7E000FA3, 0xFE000FA3, [3]int{-2048, 2047, -1}},
		{0x80000063, 0x7E000FE3, 0xFE000FE3, [3]int{-4096, 4094, -2}},
		{0x80000037, 0x7FFFF037, 0xFFFFF037, [3]int{math.MinInt32, math.MaxInt32 - 4095, -4096}},
		{0x8000006F, 0x7FFFF06F, 0xFFFFF06F, [3]int{-1 << 20, 1<<20 - 2, -2}},
	} {
		for i, w := range []uint32{x.least, x.greatest, x.minus} {
			if got, ok := base.Decode(w); !ok || got.Imm != x.want[i] {
				t.Errorf("%08X: %+v, %v; its number is %d", w, got, ok, x.want[i])
			}
		}
	}
}

// P7.1: the registers 0 and 31 in each field that a row names, with nothing but noughts and ones around it; a field that it does not name is 0.
func TestRegistersAtTheirEnds(t *testing.T) {
	for _, r := range rows() {
		names := strings.Fields(r.names)
		for _, name := range []string{"rd", "rs1", "rs2"} {
			at, _ := places(name)
			for _, other := range []string{"0", "1"} {
				for _, n := range []int{0, 1, 16, 31} {
					named := slices.Contains(names, name)
					w, want := r.fixed(other), 0
					if named {
						w, want = put(w, at, n), n
					}
					x, ok := base.Decode(w)
					got := map[string]int{"rd": x.Rd, "rs1": x.Rs1, "rs2": x.Rs2}[name]
					if !ok || got != want {
						t.Errorf("%08X: %+v, %v; its %s is %d", w, x, ok, name, want)
					}
				}
			}
		}
	}
}

// P7.1: what stands above a shift's number is just so: every other value of these bits makes none.
func TestShiftsUpperBits(t *testing.T) {
	for _, x := range []struct {
		w    uint32 // what is below these bits
		low  int    // where they begin
		fns  map[uint32]int
		want api.Insn
	}{
		{0x01F09093, 26, map[uint32]int{0: api.ASll}, api.Insn{Imm: 31}},
		{0x03F09093, 26, map[uint32]int{0: api.ASll}, api.Insn{Imm: 63}},
		{0x03F0D093, 26, map[uint32]int{0: api.ASrl, 16: api.ASra}, api.Insn{Imm: 63}},
		{0x01F0909B, 25, map[uint32]int{0: api.ASll}, api.Insn{Imm: 31, Word: true}},
		{0x01F0D09B, 25, map[uint32]int{0: api.ASrl, 32: api.ASra}, api.Insn{Imm: 31, Word: true}},
	} {
		x.want.Op, x.want.Rd, x.want.Rs1 = api.OAluImm, 1, 1
		for high := range uint32(1 << (32 - x.low)) {
			w := x.w | high<<x.low
			fn, there := x.fns[high]
			if !there {
				isNone(t, w)
				continue
			}
			x.want.Fn = fn
			is(t, w, x.want)
		}
	}
}

// P7.1: the words that are instructions as a whole; of those one bit off above the opcode none is, but the fences of translations, and what uses a control register.
func TestWholeWords(t *testing.T) {
	whole := map[uint32]int{0x73: api.OEcall, 0x100073: api.OEbreak, 0x30200073: api.OMret, 0x10200073: api.OSret, 0x10500073: api.OWfi}
	for w, op := range whole {
		is(t, w, api.Insn{Op: op})
		for bit, beside := range flipped(w) {
			_, too := whole[beside]
			switch {
			case bit < 7 || bit == 12 || bit == 13 || too:
			case beside == 0x12200073:
				is(t, beside, api.Insn{Op: api.OSfence, Rs2: 2})
			case beside == 0x12500073:
				is(t, beside, api.Insn{Op: api.OSfence, Rs2: 5})
			default:
				isNone(t, beside)
			}
		}
	}
	for _, w := range []uint32{0x00200073, 0x00300073, 0x30200873, 0x30300073, 0x10300073, 0x10400073, 0x30204073, 0x7B200073, 0x00000FF3, 0x000F8073, 0x70200073, 0x001F8FF3} {
		isNone(t, w)
	}
}

// P7.1: a fence of translations has f7 9 and rd 0; with another of these there is none.
func TestFenceOfTranslations(t *testing.T) {
	for regs := range uint32(1 << 10) {
		w := 9<<25 | regs<<15 | 0x73
		is(t, w, api.Insn{Op: api.OSfence, Rs1: int(regs & 31), Rs2: int(regs >> 5)})
		isNone(t, w|(1+regs%31)<<7)
		for _, f7 := range []uint32{1, 11, 13, 25, 41, 73, 127} {
			isNone(t, w&^(127<<25)|f7<<25)
		}
		if rs1 := regs & 31; rs1 != 0 {
			isNone(t, w^1<<25)
		}
	}
}

// P7.1: other fences name nothing, whatever stands in them; of f3 2 and more there are none.
func TestFencesNameNothing(t *testing.T) {
	for _, w := range mixed(1000) {
		w = w&^0x707F | 0x0F
		is(t, w, api.Insn{Op: api.OFence})
		is(t, w|1<<12, api.Insn{Op: api.OFenceI})
		for f3 := uint32(2); f3 < 8; f3++ {
			isNone(t, w|f3<<12)
		}
	}
}

// P7.1: all control registers, without a sign, and all six ways to use them.
func TestControlRegisters(t *testing.T) {
	for n := range uint32(1 << 12) {
		for f3 := range uint32(8) {
			if f3 == 0 {
				continue
			}
			w := n<<20 | 17<<15 | f3<<12 | 3<<7 | 0x73
			if f3 == 4 {
				isNone(t, w)
				continue
			}
			is(t, w, api.Insn{Op: api.OCsr, Fn: int(f3 & 3), Use: f3 > 4, Rd: 3, Rs1: 17, Imm: int(n)})
		}
	}
}

// P7.1: a load that is reserved has no second register; what an order asks for (bits 26 and 25) is not named.
func TestAtomicsOrderAndRegisters(t *testing.T) {
	for order := range uint32(4) {
		for rs2 := range uint32(32) {
			for _, width := range []uint32{2, 3} {
				low := order<<25 | rs2<<20 | 9<<15 | width<<12 | 4<<7 | 0x2F
				if rs2 == 0 {
					is(t, 2<<27|low, api.Insn{Op: api.OLr, Width: int(width), Rd: 4, Rs1: 9})
				} else {
					isNone(t, 2<<27|low)
				}
				is(t, 3<<27|low, api.Insn{Op: api.OSc, Width: int(width), Rd: 4, Rs1: 9, Rs2: int(rs2)})
				is(t, 12<<27|low, api.Insn{Op: api.OAmo, Fn: api.XAnd, Width: int(width), Rd: 4, Rs1: 9, Rs2: int(rs2)})
			}
		}
	}
}

// P7.1: there are atomics of two widths, and of no other numbers than those that are named.
func TestAtomicsThereAre(t *testing.T) {
	kinds := map[uint32]int{2: api.OLr, 3: api.OSc}
	for _, fn := range []uint32{api.XAdd, api.XSwap, api.XXor, api.XOr, api.XAnd, api.XMin, api.XMax, api.XMinu, api.XMaxu} {
		kinds[fn] = api.OAmo
	}
	for fn := range uint32(32) {
		for width := range uint32(8) {
			w := fn<<27 | width<<12 | 0x2F
			op, there := kinds[fn]
			if !there || width != 2 && width != 3 {
				isNone(t, w)
				continue
			}
			x := api.Insn{Op: op, Width: int(width)}
			if op == api.OAmo {
				x.Fn = int(fn)
			}
			is(t, w, x)
		}
	}
}

// P7.1: of opcodes that the table has not there is no word; nor are these.
func TestNone(t *testing.T) {
	known := opcodes()
	for op := range uint32(128) {
		if slices.Contains(known, op) {
			continue
		}
		for _, w := range append(mixed(200), 0, 0xFFFFFFFF) {
			isNone(t, w&^0x7F|op)
		}
	}
	for _, w := range []uint32{
		0x00007003,             // a load of the width 7
		0x00004023, 0x00007023, // stores of the widths 4 and 7
		0x0000200F, 0x0000700F, // fences
		0x00002063, 0x00003063, // branches
		0x00001067, 0x00007067, // jumps to a register
		0x0200101B, 0x0000201B, 0x0000701B, // of 32 bits, by a number: a shift by 32, and what there is of 64 alone
		0x40001033, 0x40007033, 0x04000033, 0xFE000033, // of two registers: f7 32, 2 and 127
		0x0000203B, 0x0000703B, 0x0200103B, 0x0200303B, 0x4000103B, 0x0400003B, // of these 32 bits
		0x0000002F, 0x0000402F, 0x2800202F, 0xF800202F, 0x1010A52F, // atomics
		0x00004073, // of a control register
	} {
		isNone(t, w)
	}
}

// P7.2: words that differ in what a row names of them are unlike in more than their Raw; those that differ in nothing else are alike but for it.
func TestUnlikeWordsAreUnlike(t *testing.T) {
	bare := func(w uint32) api.Insn {
		x, ok := base.Decode(w)
		if !ok || x.Raw != w {
			t.Fatalf("%08X: %+v, %v", w, x, ok)
		}
		x.Raw = 0
		return x
	}
	for _, r := range rows() {
		named := map[int]bool{}
		for _, name := range strings.Fields(r.names) {
			at, _ := places(name)
			for _, place := range at {
				named[place] = true
			}
		}
		for i, bit := range []byte(r.bits) {
			place := 31 - i
			for _, w := range append(mixed(20), 0, 0xFFFFFFFF) {
				w = w&r.fixed("1") | r.fixed("0")
				if bit == '.' && (bare(w) != bare(w^1<<place)) != named[place] {
					t.Errorf("%08X and its bit %d", w, place)
				}
			}
		}
	}
}

// P7.2: words of unlike functions and widths are unlike in more than their Raw.
func TestUnlikeRowsAreUnlike(t *testing.T) {
	seen := map[api.Insn]int{}
	for i, r := range rows() {
		x, ok := base.Decode(r.fixed("0"))
		x.Raw = 0
		if before, too := seen[x]; too || !ok {
			t.Errorf("the words %08X and %08X are both %+v", rows()[before].fixed("0"), r.fixed("0"), x)
		}
		seen[x] = i
	}
}

// P7.2: registers are from 0 to 31, and what is told beside false is nothing, of words of all sorts.
func TestRegistersAreInPlace(t *testing.T) {
	known := opcodes()
	for i, w := range mixed(200000) {
		if i%4 > 0 {
			w = w&^0x7F | known[i%len(known)]
		}
		x, ok := base.Decode(w)
		for _, r := range []int{x.Rd, x.Rs1, x.Rs2} {
			if r < 0 || r > 31 {
				t.Fatalf("%08X: %+v", w, x)
			}
		}
		if ok != (x != api.Insn{}) || ok && (x.Len != 4 || x.Raw != w || x.Op == api.OIllegal || x.Op > api.OAmo || x.Width > api.WideU) {
			t.Fatalf("%08X: %+v, %v", w, x, ok)
		}
	}
}

// R4: a word asked again, behind others, is told as before.
func TestDecodeAgain(t *testing.T) {
	words := mixed(5000)
	known := opcodes()
	first := make([]api.Insn, len(words))
	for i, w := range words {
		words[i] = w&^0x7F | known[i%len(known)]
		first[i], _ = base.Decode(words[i])
	}
	for i := range words {
		i = len(words) - 1 - i
		if x, _ := base.Decode(words[i]); x != first[i] {
			t.Errorf("%08X: %+v, then %+v", words[i], first[i], x)
		}
	}
}
