package capdec_test

import (
	"slices"
	"strings"
	"testing"

	"ravelin/api"
	"ravelin/base"
	"ravelin/capdec"
)

// held holds what is told of a word against what it should be, and tells whether that is so.
func held(t *testing.T, w uint32, want api.Insn, known bool) bool {
	t.Helper()
	got, ok := capdec.Decode(w)
	if got != want || ok != known {
		t.Errorf("%08X: %+v, %v; want %+v, %v", w, got, ok, want, known)
		return false
	}
	return true
}

// is holds a word against an instruction.
func is(t *testing.T, w uint32, x api.Insn) bool {
	t.Helper()
	x.Len, x.Raw = 4, w
	return held(t, w, x, true)
}

// isNone holds a word against there being none.
func isNone(t *testing.T, w uint32) bool {
	t.Helper()
	return held(t, w, api.Insn{}, false)
}

// asTold holds words against the table, until too many of them are not as it says.
func asTold(t *testing.T, words []uint32) {
	t.Helper()
	table, wrong := sieves(), 0
	for _, w := range words {
		want, known := trueDecode(table, w)
		if held(t, w, want, known) {
			continue
		}
		if wrong++; wrong == 20 {
			t.Fatal("and maybe more")
		}
	}
}

// mixed is words that look like chance, and are the same each time.
func mixed(count int) []uint32 {
	list := make([]uint32, count)
	state := uint64(9)
	for i := range list {
		state += 0x9E3779B97F4A7C15
		z := (state ^ state>>30) * 0xBF58476D1CE4E5B9
		z = (z ^ z>>27) * 0x94D049BB133111EB
		list[i] = uint32(z >> 32)
	}
	return list
}

// withOpcode is all words of an opcode, by what its rows hang on (all fields but rs1), with each field rs1 by turns.
func withOpcode(op uint32) []uint32 {
	list := make([]uint32, 1<<20)
	for i := range list {
		n := uint32(i)
		rs1 := (n ^ n>>5 ^ n>>10 ^ n>>15) & 31
		list[i] = n>>13<<25 | n>>8&31<<20 | rs1<<15 | n>>5&7<<12 | n&31<<7 | op
	}
	return list
}

// ofRegisters is a word of registers alone.
func ofRegisters(f7, rs2, rs1, rd int) uint32 {
	return uint32(f7<<25 | rs2<<20 | rs1<<15 | rd<<7 | 0x5B)
}

// P9.1: the chapter's examples.
func TestDecodeExamples(t *testing.T) {
	is(t, 0xFE25055B, api.Insn{Op: api.OCapGet, Fn: 2, Rd: 10, Rs1: 10})
	is(t, 0x10C5855B, api.Insn{Op: api.OCapOp, Fn: 8, Rd: 10, Rs1: 11, Rs2: 12})
	is(t, 0x0105250F, api.Insn{Op: api.OLoad, Width: 7, Rd: 10, Rs1: 10, Imm: 16})
}

// P9.1: words of each row, laid by hand: of one capability, of special registers, of two.
func TestDecodeOfRegisters(t *testing.T) {
	is(t, 0xFE00005B, api.Insn{Op: api.OCapGet, Fn: api.GPerms})
	is(t, 0xFE4505DB, api.Insn{Op: api.OCapGet, Fn: api.GTag, Rd: 11, Rs1: 10})
	is(t, 0xFEA302DB, api.Insn{Op: api.OCapGet, Fn: api.GMove, Rd: 5, Rs1: 6})
	is(t, 0xFEB0815B, api.Insn{Op: api.OCapGet, Fn: api.GClear, Rd: 2, Rs1: 1})
	is(t, 0xFEF8045B, api.Insn{Op: api.OCapGet, Fn: api.GAddr, Rd: 8, Rs1: 16})
	is(t, 0xFF14085B, api.Insn{Op: api.OCapGet, Fn: api.GSentry, Rd: 16, Rs1: 8})
	is(t, 0xFF8F8FDB, api.Insn{Op: api.OCapGet, Fn: api.GTop, Rd: 31, Rs1: 31})
	is(t, 0xFEC280DB, api.Insn{Op: api.OCjalr, Rd: 1, Rs1: 5})
	is(t, 0xFEC0805B, api.Insn{Op: api.OCjalr, Rs1: 1})
	is(t, 0xFECF8FDB, api.Insn{Op: api.OCjalr, Rd: 31, Rs1: 31})
	is(t, 0x020002DB, api.Insn{Op: api.OSpecial, Imm: api.SPcc, Rd: 5})
	is(t, 0x03C3805B, api.Insn{Op: api.OSpecial, Imm: api.SMtcc, Rs1: 7})
	is(t, 0x03FF8FDB, api.Insn{Op: api.OSpecial, Imm: api.SMepcc, Rd: 31, Rs1: 31})
	for w, fn := range map[uint32]int{
		0x10C5855B: api.CSetBounds, 0x12C5855B: api.CSetExact, 0x16C5855B: api.CSeal, 0x18C5855B: api.CUnseal, 0x1AC5855B: api.CAndPerms,
		0x1CC5855B: api.CSetMode, 0x1EC5855B: api.CSetOffset, 0x20C5855B: api.CSetAddr, 0x22C5855B: api.CInc, 0x24C5855B: api.CToPtr,
		0x26C5855B: api.CFromPtr, 0x28C5855B: api.CSub, 0x3AC5855B: api.CBuild, 0x3CC5855B: api.CCopyType, 0x40C5855B: api.CSubset,
	} {
		is(t, w, api.Insn{Op: api.OCapOp, Fn: fn, Rd: 10, Rs1: 11, Rs2: 12})
	}
}

// P9.1: likewise, of numbers and of memory.
func TestDecodeOfNumbersAndMemory(t *testing.T) {
	is(t, 0x0000105B, api.Insn{Op: api.OCapImm, Fn: api.IInc})
	is(t, 0x7FFF9FDB, api.Insn{Op: api.OCapImm, Fn: api.IInc, Rd: 31, Rs1: 31, Imm: 2047})
	is(t, 0x8001115B, api.Insn{Op: api.OCapImm, Fn: api.IInc, Rd: 2, Rs1: 2, Imm: -2048})
	is(t, 0xFF01115B, api.Insn{Op: api.OCapImm, Fn: api.IInc, Rd: 2, Rs1: 2, Imm: -16})
	is(t, 0x0000205B, api.Insn{Op: api.OCapImm, Fn: api.ISetBounds})
	is(t, 0x010525DB, api.Insn{Op: api.OCapImm, Fn: api.ISetBounds, Rd: 11, Rs1: 10, Imm: 16})
	is(t, 0x8000A0DB, api.Insn{Op: api.OCapImm, Fn: api.ISetBounds, Rd: 1, Rs1: 1, Imm: 2048})
	is(t, 0xFFFFAFDB, api.Insn{Op: api.OCapImm, Fn: api.ISetBounds, Rd: 31, Rs1: 31, Imm: 4095})
	is(t, 0xFA00005B, api.Insn{Op: api.OLoadVia, Width: api.Byte})
	is(t, 0xFA5101DB, api.Insn{Op: api.OLoadVia, Width: api.HalfU, Rd: 3, Rs1: 2})
	is(t, 0xFA75855B, api.Insn{Op: api.OLoadVia, Width: api.Quad, Rd: 10, Rs1: 11})
	is(t, 0xFA85855B, api.Insn{Op: api.OLoadVia, Width: api.Byte, Use: true, Rd: 10, Rs1: 11})
	is(t, 0xFAE5855B, api.Insn{Op: api.OLoadVia, Width: api.WideU, Use: true, Rd: 10, Rs1: 11})
	is(t, 0xFAFF8FDB, api.Insn{Op: api.OLoadVia, Width: api.Quad, Use: true, Rd: 31, Rs1: 31})
	is(t, 0xF800005B, api.Insn{Op: api.OStoreVia, Width: api.Byte})
	is(t, 0xF8C581DB, api.Insn{Op: api.OStoreVia, Width: api.Long, Rs1: 11, Rs2: 12})
	is(t, 0xF8C583DB, api.Insn{Op: api.OStoreVia, Width: api.Quad, Rs1: 11, Rs2: 12})
	is(t, 0xF8C5845B, api.Insn{Op: api.OStoreVia, Width: api.Byte, Use: true, Rs1: 11, Rs2: 12})
	is(t, 0xF9FF85DB, api.Insn{Op: api.OStoreVia, Width: api.Long, Use: true, Rs1: 31, Rs2: 31})
	is(t, 0xF81107DB, api.Insn{Op: api.OStoreVia, Width: api.Quad, Use: true, Rs1: 2, Rs2: 1})
	is(t, 0x0000200F, api.Insn{Op: api.OLoad, Width: api.Quad})
	is(t, 0x7FFFAF8F, api.Insn{Op: api.OLoad, Width: api.Quad, Rd: 31, Rs1: 31, Imm: 2047})
	is(t, 0x8001250F, api.Insn{Op: api.OLoad, Width: api.Quad, Rd: 10, Rs1: 2, Imm: -2048})
	is(t, 0xFFF4248F, api.Insn{Op: api.OLoad, Width: api.Quad, Rd: 9, Rs1: 8, Imm: -1})
	is(t, 0x00004023, api.Insn{Op: api.OStore, Width: api.Quad})
	is(t, 0x7FFFCFA3, api.Insn{Op: api.OStore, Width: api.Quad, Rs1: 31, Rs2: 31, Imm: 2047})
	is(t, 0x80114023, api.Insn{Op: api.OStore, Width: api.Quad, Rs1: 2, Rs2: 1, Imm: -2048})
	is(t, 0xFE944FA3, api.Insn{Op: api.OStore, Width: api.Quad, Rs1: 8, Rs2: 9, Imm: -1})
	is(t, 0x00114823, api.Insn{Op: api.OStore, Width: api.Quad, Rs1: 2, Rs2: 1, Imm: 16})
	is(t, 0x02B54023, api.Insn{Op: api.OStore, Width: api.Quad, Rs1: 10, Rs2: 11, Imm: 32})
}

// P9.1: of the table's opcodes all words, but that each has one rs1 alone.
func TestDecodeAsTold(t *testing.T) {
	for _, op := range []uint32{0x5B, 0x0F, 0x23} {
		asTold(t, withOpcode(op))
	}
}

// P9.1: the words of each row that have nothing but noughts, or ones, where it leaves bits open, and all words one bit off these.
func TestDecodeOneBitOff(t *testing.T) {
	var words []uint32
	for _, r := range rows() {
		for _, other := range []string{"0", "1"} {
			w := r.filled(other)
			words = append(words, w)
			for bit := range 32 {
				words = append(words, w^1<<bit)
			}
		}
	}
	asTold(t, words)
}

// P9.1: words of all sorts, with each opcode of the table, and as they come.
func TestDecodeMixed(t *testing.T) {
	words := mixed(90000)
	opcodes := []uint32{0x5B, 0x0F, 0x23}
	for i, w := range words[:60000] {
		words[i] = w&^0x7F | opcodes[i%3]
	}
	asTold(t, words)
}

// P9.1: what is asked of one capability is just what the table lists, and the jump stands among it.
func TestAsked(t *testing.T) {
	list := asked()
	for fn := range 32 {
		w := ofRegisters(0x7F, fn, 11, 10)
		switch {
		case fn == 12:
			is(t, w, api.Insn{Op: api.OCjalr, Rd: 10, Rs1: 11})
		case slices.Contains(list, fn):
			is(t, w, api.Insn{Op: api.OCapGet, Fn: fn, Rd: 10, Rs1: 11})
		default:
			isNone(t, w)
		}
	}
}

// P9.1: what is done with two is just what the table lists; beside it stand the four other f7s.
func TestDone(t *testing.T) {
	list := done()
	for f7 := range 128 {
		w := ofRegisters(f7, 17, 11, 7)
		switch {
		case f7 == 1:
			is(t, w, api.Insn{Op: api.OSpecial, Imm: 17, Rd: 7, Rs1: 11})
		case f7 == 0x7C:
			is(t, w, api.Insn{Op: api.OStoreVia, Width: api.Quad, Rs1: 11, Rs2: 17})
		case f7 == 0x7F:
			is(t, w, api.Insn{Op: api.OCapGet, Fn: api.GSentry, Rd: 7, Rs1: 11})
		case slices.Contains(list, f7):
			is(t, w, api.Insn{Op: api.OCapOp, Fn: f7, Rd: 7, Rs1: 11, Rs2: 17})
		default:
			isNone(t, w)
		}
	}
}

// P9.1: each special register's number is told, whether there is such a one or not.
func TestSpecialRegisters(t *testing.T) {
	for n := range 32 {
		is(t, ofRegisters(1, n, 31, 0), api.Insn{Op: api.OSpecial, Imm: n, Rs1: 31})
		is(t, ofRegisters(1, n, 0, 31), api.Insn{Op: api.OSpecial, Imm: n, Rd: 31})
	}
}

// P9.1: loads of all widths, by DDC and by a capability, and stores of those that there are; from 16 on there is none.
func TestVia(t *testing.T) {
	for way := range 32 {
		load, store := ofRegisters(0x7D, way, 11, 10), ofRegisters(0x7C, 12, 11, way)
		if way >= 16 {
			isNone(t, load)
			isNone(t, store)
			continue
		}
		width, use := way&7, way&8 != 0
		is(t, load, api.Insn{Op: api.OLoadVia, Width: width, Use: use, Rd: 10, Rs1: 11})
		if width > api.Long && width != api.Quad {
			isNone(t, store)
			continue
		}
		is(t, store, api.Insn{Op: api.OStoreVia, Width: width, Use: use, Rs1: 11, Rs2: 12})
	}
}

// P9.1: each number at its least, its greatest, at -1, 0, and bit by bit, in each row that names one, whatever stands beside it.
func TestNumbersAtTheirEnds(t *testing.T) {
	for _, r := range rows() {
		for _, name := range strings.Fields(r.names) {
			if !isNumber(name) {
				continue
			}
			at, sign := places(name)
			list := []int{0, 1<<len(at) - 1}
			if sign {
				list = []int{0, -1 << (len(at) - 1), 1<<(len(at)-1) - 1, -1}
			}
			for bit := range len(at) - 1 {
				list = append(list, 1<<bit)
			}
			for _, n := range list {
				for _, other := range []string{"0", "1"} {
					w := put(r.filled(other), at, n)
					if x, ok := capdec.Decode(w); !ok || x.Imm != n || x.Op != r.x.Op {
						t.Errorf("%08X: %+v, %v; its %s is %d", w, x, ok, name, n)
					}
				}
			}
		}
	}
}

// P9.1: all registers in each field that a row names, with nothing but noughts and ones around it; a field that it does not name is 0.
func TestRegistersOfRows(t *testing.T) {
	for _, r := range rows() {
		names := strings.Fields(r.names)
		for _, name := range []string{"rd", "rs1", "rs2"} {
			at, _ := places(name)
			for _, other := range []string{"0", "1"} {
				for n := range 32 {
					w, want := r.filled(other), 0
					if slices.Contains(names, name) {
						w, want = put(w, at, n), n
					}
					x, ok := capdec.Decode(w)
					got := map[string]int{"rd": x.Rd, "rs1": x.Rs1, "rs2": x.Rs2}[name]
					if !ok || got != want {
						t.Errorf("%08X: %+v, %v; its %s is %d", w, x, ok, name, want)
					}
				}
			}
		}
	}
}

// P9.1: of opcodes that the table has not there is no word; nor are these.
func TestNone(t *testing.T) {
	for op := range uint32(128) {
		if op == 0x5B || op == 0x0F || op == 0x23 {
			continue
		}
		for _, r := range rows() {
			isNone(t, r.filled("0")&^0x7F|op)
			isNone(t, r.filled("1")&^0x7F|op)
		}
		for _, w := range mixed(200) {
			isNone(t, w&^0x7F|op)
		}
	}
	for _, w := range []uint32{
		0x00000000, 0xFFFFFFFF, 0x0000005B, // nothing at all
		0x0000305B, 0x0000405B, 0xFE25355B, 0xFE25755B, // f3 3 and more
		0x1450005B, 0x4250005B, 0x0E50005B, 0x2A50005B, 0x3E50005B, 0x5050005B, 0xFC50005B, // nothing that is done with two
		0xFED0005B, 0xFEE0005B, 0xFF00005B, 0xFF20005B, 0xFF70005B, 0xFF90005B, 0xFFF0005B, // nothing that is asked
		0xFB00005B, 0xFBF0005B, // no load
		0xF800025B, 0xF80002DB, 0xF800035B, 0xF800065B, 0xF800075B, 0xF800085B, 0xF8000FDB, // no stores
		0x0000000F, 0x0000100F, 0x0000300F, 0x0000400F, 0x0000700F, // not of a capability, or nothing
		0x00000023, 0x00003023, 0x00005023, 0x00007023, // likewise
		0x0000205A, 0x00002059, 0x0000200E, 0x00004022, // not long
	} {
		isNone(t, w)
	}
}

// P9.2: no word that is an instruction here is one of base's: of the table's opcodes all, but that each has one rs1 alone.
func TestApartFromBase(t *testing.T) {
	for _, op := range []uint32{0x5B, 0x0F, 0x23} {
		for _, w := range withOpcode(op) {
			if _, here := capdec.Decode(w); !here {
				continue
			}
			if x, there := base.Decode(w); there {
				t.Fatalf("%08X: %+v", w, x)
			}
		}
	}
}

// P9.2: no word that is one of base's is an instruction here, of all opcodes and functions.
func TestBaseApart(t *testing.T) {
	common := 0
	words := mixed(1 << 17)
	for i, w := range words {
		n := uint32(i)
		w = w&0x01FF8F80 | n>>10&127<<25 | n>>7&7<<12 | n&127
		x, there := base.Decode(w)
		if !there {
			continue
		}
		common++
		if y, here := capdec.Decode(w); here {
			t.Fatalf("%08X: %+v, %+v", w, x, y)
		}
	}
	if common < 1000 {
		t.Errorf("base knows %d words alone", common)
	}
}

// P9.2: loads and stores share their opcodes with instructions of base; by f3 a word is of the one, or of the other.
func TestSharedOpcodes(t *testing.T) {
	for _, x := range []struct {
		op, there, here uint32 // base has f3s ahead of there
	}{{0x0F, 2, 2}, {0x23, 4, 4}} {
		for f3 := range uint32(8) {
			for _, w := range mixed(500) {
				w = w&^0x707F | f3<<12 | x.op
				_, there := base.Decode(w)
				_, here := capdec.Decode(w)
				if there != (f3 < x.there) || here != (f3 == x.here) {
					t.Errorf("%08X: there %v, here %v", w, there, here)
				}
			}
		}
	}
}

// P9.1: what is told of words of all sorts has its fields in their places, and beside false there is nothing.
func TestFieldsAreInPlace(t *testing.T) {
	classes := []int{api.OLoad, api.OStore, api.OCapGet, api.OCapOp, api.OCapImm, api.OCjalr, api.OSpecial, api.OLoadVia, api.OStoreVia}
	for i, w := range mixed(200000) {
		if i%4 > 0 {
			w = w&^0x707F | uint32(i%3)<<12 | 0x5B
		}
		x, ok := capdec.Decode(w)
		for _, r := range []int{x.Rd, x.Rs1, x.Rs2} {
			if r < 0 || r > 31 {
				t.Fatalf("%08X: %+v", w, x)
			}
		}
		if ok != (x != api.Insn{}) || ok && (x.Len != 4 || x.Raw != w || x.Word || !slices.Contains(classes, x.Op)) {
			t.Fatalf("%08X: %+v, %v", w, x, ok)
		}
	}
}

// R4: a word asked again, behind others, is told as before.
func TestDecodeAgain(t *testing.T) {
	words := mixed(5000)
	first := make([]api.Insn, len(words))
	for i, w := range words {
		words[i] = w&^0x707F | uint32(i%3)<<12 | 0x5B
		first[i], _ = capdec.Decode(words[i])
	}
	for i := range words {
		i = len(words) - 1 - i
		if x, _ := capdec.Decode(words[i]); x != first[i] {
			t.Errorf("%08X: %+v, then %+v", words[i], first[i], x)
		}
	}
}
