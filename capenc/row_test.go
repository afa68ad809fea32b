package capenc

import (
	"math"
	"testing"
)

// P4.2: fields stand behind one another from bit 0 on, and of each only as many bits as it is wide.
func TestRowPuts(t *testing.T) {
	var r row[uint64]
	for _, f := range []struct {
		field int
		width uint
		want  uint64
	}{
		{5, 3, 5}, {-1, 2, 0x1D}, {8, 3, 0x1D}, {math.MaxInt, 1, 0x11D}, {0x1F0, 9, 0x3E11D}, {math.MinInt, 14, 0x3E11D}, {-1, 32, math.MaxUint32<<32 | 0x3E11D}, {-1, 1, math.MaxUint32<<32 | 0x3E11D},
	} {
		if r.put(f.field, f.width); r.bits != f.want {
			t.Fatalf("put %d of %d bits: %#x, want %#x", f.field, f.width, r.bits, f.want)
		}
	}
	var all row[uint64]
	if all.put(-1, 64); all.bits != math.MaxUint64 {
		t.Errorf("put all 64 bits: %#x", all.bits)
	}
	var small row[uint8]
	small.put(-1, 3)
	small.put(2, 3)
	if small.put(-1, 2); small.bits != 0xD7 {
		t.Errorf("put into 8 bits: %#x", small.bits)
	}
}

// P4.3: fields are taken in the order in which they were put, from a row of either kind.
func TestRowTakesWhatWasPut(t *testing.T) {
	var whole row[uint64]
	var small row[uint8]
	widths := []uint{1, 2, 3, 2}
	fields := []int{1, 0, 5, 3}
	for i, width := range widths {
		whole.put(fields[i], width)
		small.put(fields[i], width)
	}
	fromWhole, fromSmall := row[uint64]{bits: whole.bits}, row[uint8]{bits: small.bits}
	for i, width := range widths {
		if a, b := fromWhole.take(width), fromSmall.take(width); a != fields[i] || b != fields[i] {
			t.Fatalf("field %d: %d and %d, want %d", i, a, b, fields[i])
		}
	}
	if a, b := fromWhole.take(60), fromSmall.take(3); a != 0 || b != 0 {
		t.Errorf("behind the end: %d and %d", a, b)
	}
}
