// Package word is layer 1: arithmetic on numbers of 64 bits: see shared/doc/01-word.md.
package word

import "ravelin/api"

// sizes is how many bytes each width has, by the width's number.
var sizes = [8]int{1, 2, 4, 8, 1, 2, 4, 16}

// Alu is what an operation makes of two numbers, of 64 bits, or of the lowest 32 (word); false: it is none.
func Alu(fn int, word bool, a, b uint64) (uint64, bool) {
	if word {
		v, ok := turn(fn, uint32(a), uint32(b), 32)
		return Extend(uint64(v), api.Wide), ok
	}
	if v, ok := turn(fn, a, b, 64); ok {
		return v, true
	}
	return compareOrMix(fn, a, b)
}

// turn is what the operations that both widths have make of two numbers of so many bits; false: it is none of them.
func turn[N uint32 | uint64](fn int, a, b, width N) (N, bool) {
	by := b % width
	switch fn {
	case api.AAdd:
		return a + b, true
	case api.ASub:
		return a - b, true
	case api.ASll:
		return a << by, true
	case api.ASrl:
		return a >> by, true
	case api.ASra:
		return shiftSigned(a, by, width), true
	}
	return 0, false
}

// shiftSigned shifts down, the highest bit coming in. Below nought the complement is shifted: its noughts that come in are ones once it is turned back.
func shiftSigned[N uint32 | uint64](a, by, width N) N {
	if a>>(width-1) == 1 {
		return ^(^a >> by)
	}
	return a >> by
}

// compareOrMix is what the operations that only 64 bits have make of two numbers; false: it is none of them.
func compareOrMix(fn int, a, b uint64) (uint64, bool) {
	switch fn {
	case api.ASlt:
		return one(int64(a) < int64(b)), true
	case api.ASltu:
		return one(a < b), true
	case api.AXor:
		return a ^ b, true
	case api.AOr:
		return a | b, true
	case api.AAnd:
		return a & b, true
	}
	return 0, false
}

// one is 1 for what is so, else 0.
func one(so bool) uint64 {
	if so {
		return 1
	}
	return 0
}

// Branch tells whether a branch is taken; false: it is none.
func Branch(fn int, a, b uint64) (bool, bool) {
	switch fn {
	case api.BEq:
		return a == b, true
	case api.BNe:
		return a != b, true
	case api.BLt:
		return int64(a) < int64(b), true
	case api.BGe:
		return int64(a) >= int64(b), true
	case api.BLtu:
		return a < b, true
	case api.BGeu:
		return a >= b, true
	}
	return false, false
}

// Size is how many bytes a width has; 0: it is none.
func Size(width int) int {
	if width < 0 || width >= len(sizes) {
		return 0
	}
	return sizes[width]
}

// Extend is a number of a width, with its sign, or without.
func Extend(v uint64, width int) uint64 {
	switch width {
	case api.Byte:
		return uint64(int8(v))
	case api.Half:
		return uint64(int16(v))
	case api.Wide:
		return uint64(int32(v))
	case api.ByteU:
		return uint64(uint8(v))
	case api.HalfU:
		return uint64(uint16(v))
	case api.WideU:
		return uint64(uint32(v))
	}
	return v
}
