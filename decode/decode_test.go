package decode_test

import (
	"slices"
	"testing"

	"ravelin/api"
	"ravelin/base"
	"ravelin/capdec"
	"ravelin/decode"
	"ravelin/rvc"
)

// is holds what is told of a word against an instruction, with all its fields, and tells whether that is so.
func is(t *testing.T, w uint32, want api.Insn) bool {
	t.Helper()
	got := decode.Decode(w)
	if got != want {
		t.Errorf("%08X: %+v; want %+v", w, got, want)
	}
	return got == want
}

// isLong holds a long word against an instruction, but for Len and Raw.
func isLong(t *testing.T, w uint32, x api.Insn) {
	t.Helper()
	x.Len, x.Raw = 4, w
	is(t, w, x)
}

// isHalf holds a half, with all that may stand above it, against an instruction, but for Len and Raw.
func isHalf(t *testing.T, h uint32, x api.Insn) {
	t.Helper()
	x.Len, x.Raw = 2, h
	for _, upper := range uppers() {
		is(t, upper<<16|h, x)
	}
}

// uppers is what may stand above a half: nothing, all, the ends, and halves that are instructions themselves.
func uppers() []uint32 {
	return []uint32{0, 0xFFFF, 1, 0x8000, 3, 0x4529, 0x00A0, 0xFE25}
}

// mixed is words that look like chance, and are the same each time.
func mixed(count int) []uint32 {
	list := make([]uint32, count)
	state := uint64(10)
	for i := range list {
		state += 0x9E3779B97F4A7C15
		z := (state ^ state>>30) * 0xBF58476D1CE4E5B9
		z = (z ^ z>>27) * 0x94D049BB133111EB
		list[i] = uint32(z >> 32)
	}
	return list
}

// opcodes is those of which the layers 7 and 9 have instructions.
func opcodes() []uint32 {
	return []uint32{0x03, 0x0F, 0x13, 0x17, 0x1B, 0x23, 0x2F, 0x33, 0x37, 0x3B, 0x5B, 0x63, 0x67, 0x6F, 0x73}
}

// trueDecode is what Decode tells of a word, by the chapter's words.
func trueDecode(w uint32) api.Insn {
	if w%4 == 3 {
		for _, told := range []func(uint32) (api.Insn, bool){base.Decode, capdec.Decode} {
			if x, known := told(w); known {
				return x
			}
		}
		return api.Insn{Len: 4, Raw: w}
	}
	half := w % (1 << 16)
	x := api.Insn{}
	if word, stands := rvc.Expand(uint16(half)); stands {
		x, _ = base.Decode(word)
	}
	x.Len, x.Raw = 2, half
	return x
}

// asTold holds words against the chapter, until too many of them are not as it says.
func asTold(t *testing.T, words []uint32) {
	t.Helper()
	wrong := 0
	for _, w := range words {
		if is(t, w, trueDecode(w)) {
			continue
		}
		if wrong++; wrong == 20 {
			t.Fatal("and maybe more")
		}
	}
}

// P10.1: all halves: those are long whose lowest two bits are both set.
func TestLong(t *testing.T) {
	count := 0
	for h := range 1 << 16 {
		want := h%2 == 1 && h/2%2 == 1
		if got := decode.Long(uint16(h)); got != want {
			t.Errorf("%04X: %v", h, got)
		}
		if want {
			count++
		}
	}
	if count != 1<<14 {
		t.Errorf("%d are long", count)
	}
}

// P10.2: the chapter's examples.
func TestDecodeExamples(t *testing.T) {
	is(t, 0x00A00513, api.Insn{Op: api.OAluImm, Rd: 10, Imm: 10, Len: 4, Raw: 0x00A00513})
	is(t, 0x00004529, api.Insn{Op: api.OAluImm, Rd: 10, Imm: 10, Len: 2, Raw: 0x4529})
	is(t, 0xFFFF4529, api.Insn{Op: api.OAluImm, Rd: 10, Imm: 10, Len: 2, Raw: 0x4529})
	is(t, 0x00000000, api.Insn{Op: api.OIllegal, Len: 2})
	is(t, 0xFFFFFFFF, api.Insn{Op: api.OIllegal, Len: 4, Raw: 0xFFFFFFFF})
}

// P10.2: long words of each class, as they are laid.
func TestDecodeOfLongWords(t *testing.T) {
	classes := map[int]int{}
	for _, l := range slices.Concat(plainWords(), capabilityWords()) {
		isLong(t, l.w, l.x)
		classes[l.x.Op]++
	}
	for class := api.OLui; class <= api.OStoreVia; class++ {
		if classes[class] == 0 {
			t.Errorf("no word is of the class %d", class)
		}
	}
}

// P10.2: long words that neither layer 7 nor layer 9 knows are illegal, as a whole.
func TestDecodeOfUnknownLongWords(t *testing.T) {
	for _, w := range unknownWords() {
		isLong(t, w, api.Insn{Op: api.OIllegal})
	}
	known := opcodes()
	for op := uint32(3); op < 128; op += 4 {
		if slices.Contains(known, op) {
			continue
		}
		for _, w := range append(mixed(300), 0, 0xFFFFFFFF) {
			isLong(t, w&^0x7F|op, api.Insn{Op: api.OIllegal})
		}
	}
}

// P10.2: of halves of each row of chapter 8 the instructions, whatever stands above them.
func TestDecodeOfHalves(t *testing.T) {
	for _, l := range halves() {
		isHalf(t, l.w, l.x)
	}
}

// P10.2: halves that stand for none are illegal, and what stands above them is not told.
func TestDecodeOfUnknownHalves(t *testing.T) {
	for _, h := range unknownHalves() {
		isHalf(t, h, api.Insn{Op: api.OIllegal})
	}
}

// P10.2: all halves, those that are long, too, with something else above each.
func TestDecodeOfAllHalves(t *testing.T) {
	words := mixed(1 << 16)
	for h := range words {
		words[h] = words[h]&^0xFFFF | uint32(h)
	}
	asTold(t, words)
}

// P10.2: all opcodes and functions, with registers about their ends, and without the bits that make a word long.
func TestDecodeOfAllFunctions(t *testing.T) {
	var words []uint32
	for functions := range uint32(1 << 10) {
		for op := range uint32(128) {
			regs := []uint32{0, 31<<20 | 31<<15 | 31<<7}
			if op%4 == 3 {
				regs = append(regs, 31<<15, 2<<20, 12<<20|11<<15|10<<7, 31<<7)
			}
			for _, r := range regs {
				words = append(words, functions>>3<<25|functions&7<<12|r|op)
			}
		}
	}
	asTold(t, words)
}

// P10.2: of the opcodes that ask for more than functions (capabilities, the system, atomics), all functions and all of one register.
func TestDecodeOfAllSecondRegisters(t *testing.T) {
	var words []uint32
	for _, op := range []uint32{0x5B, 0x73, 0x2F} {
		for upper := range uint32(1 << 12) {
			for f3 := range uint32(8) {
				words = append(words, upper<<20|f3<<12|op, upper<<20|7<<15|f3<<12|3<<7|op)
			}
		}
	}
	asTold(t, words)
}

// P10.2: words of all sorts, with each opcode that is known, and as they come.
func TestDecodeMixed(t *testing.T) {
	words := mixed(120000)
	known := opcodes()
	for i, w := range words[:60000] {
		words[i] = w&^0x7F | known[i%len(known)]
	}
	asTold(t, words)
}

// P10.2: where the layers 7 and 9 share an opcode, the f3 tells whose a word is, or that it is no one's.
func TestSharedOpcodes(t *testing.T) {
	for _, x := range []struct {
		op   uint32
		want [8]int // by f3
	}{
		{0x0F, [8]int{0: api.OFence, 1: api.OFenceI, 2: api.OLoad}},
		{0x23, [8]int{api.OStore, api.OStore, api.OStore, api.OStore, api.OStore}},
	} {
		for f3, want := range x.want {
			for _, w := range mixed(200) {
				w = w&^0x707F | uint32(f3)<<12 | x.op
				got := decode.Decode(w)
				quad := x.op == 0x0F && f3 == 2 || x.op == 0x23 && f3 == 4
				if got.Op != want || (got.Width == api.Quad) != quad || got.Len != 4 || got.Raw != w {
					t.Errorf("%08X: %+v", w, got)
				}
			}
		}
	}
}

// P10.3: every word is told: its class is one that there is, its registers are in their places; Len and Raw are those of a long one, or else of a half.
func TestEveryWordIsTold(t *testing.T) {
	words := mixed(300000)
	known := opcodes()
	for i, w := range words[:100000] {
		words[i] = w&^0x7F | known[i%len(known)]
	}
	for _, w := range words {
		x := decode.Decode(w)
		length, raw := 2, w&0xFFFF
		if w&3 == 3 {
			length, raw = 4, w
		}
		if x.Len != length || x.Raw != raw {
			t.Fatalf("%08X: %+v", w, x)
		}
		for _, r := range []int{x.Rd, x.Rs1, x.Rs2} {
			if r < 0 || r > 31 {
				t.Fatalf("%08X: %+v", w, x)
			}
		}
		if x.Op < api.OIllegal || x.Op > api.OStoreVia || x.Width < api.Byte || x.Width > api.Quad {
			t.Fatalf("%08X: %+v", w, x)
		}
		if x.Op == api.OIllegal && x != (api.Insn{Len: length, Raw: raw}) {
			t.Fatalf("%08X: %+v", w, x)
		}
	}
}

// P10.3: of all halves that are not long all hangs on the half, whatever stands above it; Len is 2, and Raw the half.
func TestAllHangsOnTheHalf(t *testing.T) {
	others := mixed(1 << 16)
	for h := range uint32(1 << 16) {
		if h%4 == 3 {
			continue
		}
		want := decode.Decode(h)
		if want.Len != 2 || want.Raw != h {
			t.Fatalf("%04X: %+v", h, want)
		}
		for _, upper := range append(uppers(), others[h]>>16) {
			if !is(t, upper<<16|h, want) {
				t.FailNow()
			}
		}
	}
}

// P10.3: a long word hangs on its upper half, too.
func TestLongWordsHangOnAll(t *testing.T) {
	isLong(t, 0x00000073, api.Insn{Op: api.OEcall})
	isLong(t, 0x00100073, api.Insn{Op: api.OEbreak})
	isLong(t, 0x80000073, api.Insn{Op: api.OIllegal})
	for bit := 16; bit < 32; bit++ {
		isLong(t, 0x00000037|1<<bit, api.Insn{Op: api.OLui, Imm: int(int32(1) << bit)})
		isLong(t, 0x0000007F|1<<bit, api.Insn{Op: api.OIllegal})
	}
}

// forCapabilities tells whether an instruction is one for capabilities.
func forCapabilities(x api.Insn) bool {
	return x.Op >= api.OCapGet && x.Op <= api.OStoreVia || x.Width == api.Quad
}

// P10.4: no half that is not long is an instruction for capabilities, even with the upper half of one above it.
func TestNoHalfIsForCapabilities(t *testing.T) {
	words := capabilityWords()
	for h := range uint32(1 << 16) {
		if h%4 == 3 {
			continue
		}
		upper := words[h/4%uint32(len(words))].w &^ 0xFFFF
		for _, w := range []uint32{h, upper | h} {
			if x := decode.Decode(w); forCapabilities(x) {
				t.Fatalf("%08X: %+v", w, x)
			}
		}
	}
}

// P10.4: an instruction for capabilities is long, and without both of its lowest bits it is none.
func TestCapabilitiesAreLong(t *testing.T) {
	for _, l := range capabilityWords() {
		if x := decode.Decode(l.w); !forCapabilities(x) || x.Len != 4 || !decode.Long(uint16(l.w)) {
			t.Errorf("%08X: %+v", l.w, x)
		}
		for low := range uint32(3) {
			w := l.w&^3 | low
			if x := decode.Decode(w); forCapabilities(x) || x.Len != 2 {
				t.Errorf("%08X: %+v", w, x)
			}
		}
	}
	for i, w := range mixed(100000) {
		if i%2 == 0 {
			w = w&^0x707C | uint32(i/2%3)<<12 | 0x58
		}
		if x := decode.Decode(w); forCapabilities(x) && (x.Len != 4 || w&3 != 3) {
			t.Fatalf("%08X: %+v", w, x)
		}
	}
}

// R4: a word asked again, behind others, is told as before.
func TestDecodeAgain(t *testing.T) {
	words := mixed(10000)
	first := make([]api.Insn, len(words))
	for i, w := range words {
		first[i] = decode.Decode(w)
	}
	for i := range words {
		i = len(words) - 1 - i
		if x := decode.Decode(words[i]); x != first[i] {
			t.Errorf("%08X: %+v, then %+v", words[i], first[i], x)
		}
	}
}
