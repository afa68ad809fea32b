package csr_test

import (
	"math"
	"reflect"
	"testing"

	"ravelin/api"
	"ravelin/bounds"
	"ravelin/capenc"
	"ravelin/csr"
)

// words is where a processor's numbers are.
func words(h *api.Hart) []*uint64 {
	return []*uint64{
		&h.Mstatus, &h.Medeleg, &h.Mideleg, &h.Mie, &h.Mip, &h.Mscratch, &h.Sscratch,
		&h.Mcause, &h.Scause, &h.Mtval, &h.Stval, &h.Satp,
		&h.Mcounteren, &h.Scounteren, &h.Cycle, &h.Instret,
	}
}

// caps is where its capabilities are.
func caps(h *api.Hart) []*api.Cap {
	list := []*api.Cap{&h.Pcc, &h.Ddc, &h.Stcc, &h.Stdc, &h.Sscr, &h.Sepcc, &h.Mtcc, &h.Mtdc, &h.Mscr, &h.Mepcc}
	for i := range h.X {
		list = append(list, &h.X[i])
	}
	return list
}

// hart is a processor in Machine whose numbers, and capabilities, functions of their places make.
func hart(word func(i int) uint64, c func(i int) api.Cap) *api.Hart {
	h := &api.Hart{Priv: machine}
	for i, at := range words(h) {
		*at = word(i)
	}
	for i, at := range caps(h) {
		*at = c(i)
	}
	return h
}

// fresh is one of noughts and roots.
func fresh() *api.Hart {
	return hart(func(int) uint64 { return 0 }, func(int) api.Cap { return capenc.Root(0, 0) })
}

// full is one whose numbers have all bits.
func full() *api.Hart {
	return hart(func(int) uint64 { return math.MaxUint64 }, func(int) api.Cap { return capenc.Root(1, math.MaxUint64) })
}

// busy is one that looks like chance, with capabilities of all sorts.
func busy(seed uint64) *api.Hart {
	h := hart(
		func(i int) uint64 { return mix(seed*100 + uint64(i)) },
		func(i int) api.Cap {
			list := sorts(mix(seed + uint64(i)))
			return list[(i+int(seed))%len(list)]
		})
	h.Priv = []int{machine, supervisor, user}[seed%3]
	h.Waiting = seed%2 == 1
	return h
}

// harts is processors of all sorts.
func harts() []*api.Hart {
	list := []*api.Hart{{}, fresh(), full()}
	for seed := range uint64(9) {
		list = append(list, busy(seed))
	}
	return list
}

// sorts is capabilities at an address: a root, bounds that end soon, and wide ones, a sentry, a sealed one, one without a tag, a number.
func sorts(at uint64) []api.Cap {
	narrow, _ := bounds.Lay(capenc.Root(0, at), 64)
	wide, _ := bounds.Lay(capenc.Root(1, at), 1<<40)
	sentry, sealed, plain := capenc.Root(0, at), narrow, wide
	sentry.Type, sealed.Type = unsealed-1, 5
	plain.Tag = false
	return []api.Cap{capenc.Root(0, at), narrow, wide, sentry, sealed, plain, capenc.Number(at)}
}

// numbers is what is written: none, all, each bit alone, all but it, all below it, and some that look like chance.
func numbers() []uint64 {
	list := []uint64{0, math.MaxUint64}
	for i := range 64 {
		list = append(list, 1<<i, ^(uint64(1) << i), 1<<i-1, mix(uint64(i)))
	}
	return list
}

// mix is a number that looks like chance, and is the same for the same one.
func mix(v uint64) uint64 {
	z := (v + 1) * 0x9E3779B97F4A7C15
	z = (z ^ z>>30) * 0xBF58476D1CE4E5B9
	z = (z ^ z>>27) * 0x94D049BB133111EB
	return z ^ z>>31
}

// same holds two processors against each other, and names what is unlike.
func same(t *testing.T, got, want *api.Hart) {
	t.Helper()
	if *got == *want {
		return
	}
	a, b := reflect.ValueOf(*got), reflect.ValueOf(*want)
	for i := range a.NumField() {
		if !a.Field(i).Equal(b.Field(i)) {
			t.Errorf("%s is %+v; want %+v", a.Type().Field(i).Name, a.Field(i), b.Field(i))
		}
	}
	t.FailNow()
}

// read reads, asks the plain one for the same, and holds that nothing changed.
func read(t *testing.T, h *api.Hart, no int, time, lines uint64) uint64 {
	t.Helper()
	ahead := *h
	want, wantIs := plainRead(&ahead, no, time, lines)
	got, is := csr.Read(h, no, time, lines)
	if got != want || is != wantIs {
		t.Fatalf("Read(%#x, %#x, %#x): %#x, %v; want %#x, %v", no, time, lines, got, is, want, wantIs)
	}
	same(t, h, &ahead)
	return got
}

// write writes, does the same to a plain one, and holds that all else is as it was.
func write(t *testing.T, h *api.Hart, no int, v uint64) bool {
	t.Helper()
	then := *h
	want := plainWrite(&then, no, v)
	got := csr.Write(h, no, v)
	if got != want {
		t.Fatalf("Write(%#x, %#x): %v; want %v", no, v, got, want)
	}
	same(t, h, &then)
	return got
}

// may asks, asks the plain one, too, and holds that nothing changed.
func may(t *testing.T, h *api.Hart, no int, write bool) api.Trap {
	t.Helper()
	ahead := *h
	want := plainMay(&ahead, no, write)
	got := csr.May(h, no, write)
	if got != want {
		t.Fatalf("May(%#x, %v) of %d: %+v; want %+v", no, write, h.Priv, got, want)
	}
	same(t, h, &ahead)
	return got
}
