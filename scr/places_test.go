package scr

import (
	"sync"
	"testing"

	"ravelin/api"
)

// The section 'Ways': the map leads into the processor that was handed in, to ten places, no two of them one.
func TestPlaces(t *testing.T) {
	h, other := &api.Hart{}, &api.Hart{}
	seen := map[*api.Cap]bool{}
	for no, at := range places(h) {
		if seen[at] || place(h, no) != at {
			t.Errorf("%d leads elsewhere", no)
		}
		seen[at] = true
		at.Addr = uint64(no) + 1
	}
	if len(seen) != 10 {
		t.Errorf("there are %d places", len(seen))
	}
	for no := -2; no <= 40; no++ {
		at := place(h, no)
		if at != nil && at.Addr != uint64(no)+1 {
			t.Errorf("%d leads to %d", no, at.Addr)
		}
		if at != nil && place(other, no) == at {
			t.Errorf("%d of two processors is one", no)
		}
	}
	if *other != (api.Hart{}) {
		t.Error("another processor has changed")
	}
}

// R3, R5: processors share nothing, and nothing is kept from one call to the next.
func TestTogether(t *testing.T) {
	var all sync.WaitGroup
	for i := range uint64(8) {
		all.Go(func() {
			h := &api.Hart{Priv: int(i % 4)}
			for j := range uint64(2000) {
				c := api.Cap{Addr: i*10000 + j}
				if !Write(h, api.SDdc, c) || Read(h, api.SDdc) != c || h.Ddc != c {
					t.Errorf("%d: Read: %+v", i, Read(h, api.SDdc))
				}
				if got := May(h, api.SStcc, false, uint32(i)); got.Cause == api.EIllegal != (i%4 == 0) {
					t.Errorf("%d: May: %+v", i, got)
				}
			}
		})
	}
	all.Wait()
}
