package scr_test

import (
	"math"
	"reflect"
	"testing"

	"ravelin/api"
	"ravelin/scr"
)

// What the document's words say of special registers, by its own numbers and names.

// The privileges, the causes, and the value of a refusal for the system.
const (
	user       = 0
	supervisor = 1
	machine    = 3
	illegal    = 2
	refused    = 28
	noSystem   = 1048
	system     = 512
	every      = 65535
)

// names is how the registers are called in a processor, by their numbers.
func names() map[int]string {
	return map[int]string{
		0: "Pcc", 1: "Ddc",
		12: "Stcc", 13: "Stdc", 14: "Sscr", 15: "Sepcc",
		28: "Mtcc", 29: "Mtdc", 30: "Mscr", 31: "Mepcc",
	}
}

// registers is the numbers of all, in their order.
func registers() []int { return []int{0, 1, 12, 13, 14, 15, 28, 29, 30, 31} }

// wrong is numbers that are none: between the others, below, above, far off, and such as are a register's in their lowest bits.
func wrong() []int {
	list := []int{math.MinInt, math.MinInt + 1, math.MaxInt - 1, math.MaxInt}
	for no := 2; no <= 11; no++ {
		list = append(list, no)
	}
	for no := 16; no <= 27; no++ {
		list = append(list, no)
	}
	for no := 32; no <= 4200; no++ {
		list = append(list, no)
	}
	for no := 1; no <= 4200; no++ {
		list = append(list, -no)
	}
	for _, no := range registers() {
		for shift := 5; shift < 63; shift++ {
			list = append(list, 1<<shift+no, -1<<shift+no)
		}
		list = append(list, math.MinInt+no, ^no)
	}
	return list
}

// numbers is all numbers that are asked for.
func numbers() []int { return append(wrong(), registers()...) }

// field is the place of a register by its name.
func field(h *api.Hart, no int) *api.Cap {
	return reflect.ValueOf(h).Elem().FieldByName(names()[no]).Addr().Interface().(*api.Cap)
}

// trap is one with a cause and a value.
func trap(cause int, value uint64) api.Trap { return api.Trap{Is: true, Cause: cause, Value: value} }

// plainMay is what P17.1 says, reason by reason.
func plainMay(h *api.Hart, no int, write bool, raw uint32) api.Trap {
	if _, is := names()[no]; !is {
		return trap(illegal, uint64(raw))
	}
	if no == 0 && write {
		return trap(illegal, uint64(raw))
	}
	if no >= 12 && no <= 15 && h.Priv < supervisor {
		return trap(illegal, uint64(raw))
	}
	if no >= 28 && h.Priv < machine {
		return trap(illegal, uint64(raw))
	}
	if no >= 12 && h.Pcc.Perms>>9&1 == 0 {
		return trap(refused, noSystem)
	}
	return api.Trap{}
}

// same holds two processors against each other, and names what is unlike.
func same(t *testing.T, got, want *api.Hart) {
	t.Helper()
	if *got == *want {
		return
	}
	a, b := reflect.ValueOf(*got), reflect.ValueOf(*want)
	for i := range a.NumField() {
		if !a.Field(i).Equal(b.Field(i)) {
			t.Errorf("%s is %+v; want %+v", a.Type().Field(i).Name, a.Field(i), b.Field(i))
		}
	}
	t.FailNow()
}

// may asks, asks the plain one, too, and holds that nothing changed.
func may(t *testing.T, h *api.Hart, no int, write bool, raw uint32) api.Trap {
	t.Helper()
	ahead := *h
	want := plainMay(&ahead, no, write, raw)
	got := scr.May(h, no, write, raw)
	if got != want {
		t.Fatalf("May(%d, %v, %#x) of %d, Pcc's permissions %#x: %+v; want %+v", no, write, raw, h.Priv, h.Pcc.Perms, got, want)
	}
	same(t, h, &ahead)
	return got
}

// read reads, and holds that it is the field of that name, or a zero one, and that nothing changed.
func read(t *testing.T, h *api.Hart, no int) api.Cap {
	t.Helper()
	ahead, want := *h, api.Cap{}
	if _, is := names()[no]; is {
		want = *field(h, no)
	}
	got := scr.Read(h, no)
	if got != want {
		t.Fatalf("Read(%d): %+v; want %+v", no, got, want)
	}
	same(t, h, &ahead)
	return got
}

// write writes, and holds that the field of that name, if it may be written, is what it was given, and all else as it was.
func write(t *testing.T, h *api.Hart, no int, c api.Cap) bool {
	t.Helper()
	then := *h
	_, want := names()[no]
	want = want && no != 0
	if want {
		*field(&then, no) = c
	}
	got := scr.Write(h, no, c)
	if got != want {
		t.Fatalf("Write(%d, %+v): %v; want %v", no, c, got, want)
	}
	same(t, h, &then)
	return got
}
