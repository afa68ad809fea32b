package csr

import (
	"reflect"
	"sync"
	"testing"

	"ravelin/api"
)

// The section 'Ways': the map is made when it is asked first, and not again; each register has both functions.
func TestMadeOnce(t *testing.T) {
	Read(&api.Hart{}, 0x300, 0, 0)
	first := reflect.ValueOf(registers).Pointer()
	if len(registers) != 27+4+80 {
		t.Errorf("there are %d registers", len(registers))
	}
	for no, r := range registers {
		if r.read == nil || r.write == nil {
			t.Errorf("%#x has not both", no)
		}
	}
	h := &api.Hart{Priv: api.Machine}
	for no := range 0x1000 {
		May(h, no, true)
		Read(h, no, 1, 2)
		Write(h, no, 3)
	}
	if reflect.ValueOf(registers).Pointer() != first || len(registers) != 27+4+80 {
		t.Error("the map was made again")
	}
}

// R4, R5: processors share nothing, whoever asks first, and at whatever time.
func TestTogether(t *testing.T) {
	var all sync.WaitGroup
	for i := range uint64(8) {
		all.Go(func() {
			h := &api.Hart{Priv: api.Machine}
			for j := range uint64(2000) {
				Write(h, 0x340, i*j)
				Write(h, 0x106, i)
				if v, ok := Read(h, 0x340, 0, 0); v != i*j || !ok || h.Scounteren != i {
					t.Errorf("%d: Read: %d, %v; Scounteren %d", i, v, ok, h.Scounteren)
				}
			}
		})
	}
	all.Wait()
}
