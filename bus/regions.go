package bus

import "ravelin/api"

// region is what memory and devices have: numbers that are read and written at places behind a beginning.
type region interface {
	Load(off, size int) (uint64, bool)
	Store(off, size int, v uint64) bool
}

// span is a region's addresses.
type span struct{ begin, size uint64 }

// How many bytes the devices have.
const (
	powerSize = 0x1000
	clintSize = 0x10000
	plicSize  = 0x400000
	uartSize  = 0x100
)

// has tells whether so many bytes from a place on are all in it: of none, all are, wherever that is. Nothing is added to the place, as that could go round; what lies ahead of the beginning goes round to beyond all sizes.
func (s span) has(pa uint64, n int) bool {
	if n <= 0 {
		return n == 0
	}
	return uint64(n) <= s.size && pa-s.begin <= s.size-uint64(n)
}

// behind is how far a place that is in it lies behind its beginning.
func (s span) behind(pa uint64) int { return int(pa - s.begin) }

// memory is memory's addresses.
func (b *Bus) memory() span { return span{api.RamBase, uint64(b.Ram.Len())} }

// placed is a region, and where it stands.
type placed struct {
	region region
	span   span
}

// regions is all that there are; no two have an address in common.
func (b *Bus) regions() [5]placed {
	return [...]placed{
		{b.Ram, b.memory()},
		{b.Clint, span{api.ClintBase, clintSize}},
		{b.Plic, span{api.PlicBase, plicSize}},
		{b.Uart, span{api.UartBase, uartSize}},
		{b.Power, span{api.PowerBase, powerSize}},
	}
}

// find is the region in which so many bytes are, and how far they lie behind its beginning.
func (b *Bus) find(pa uint64, size int) (r region, off int, ok bool) {
	if !isSize(size) {
		return nil, 0, false
	}
	for _, p := range b.regions() {
		if p.span.has(pa, size) {
			return p.region, p.span.behind(pa), true
		}
	}
	return nil, 0, false
}

// isSize tells whether numbers of so many bytes are read and written.
func isSize(size int) bool {
	switch size {
	case 1, 2, 4, 8:
		return true
	}
	return false
}
