package ram

import "ravelin/api"

// half is how many bytes each of a granule's two numbers has.
const half = api.Granule / 2

// isSize tells whether numbers of so many bytes are loaded and stored.
func isSize(size int) bool {
	switch size {
	case 1, 2, 4, 8:
		return true
	}
	return false
}

// has tells whether so many bytes from off on are there. Off stands alone: a sum of it could go round.
func (r *Ram) has(off, size int) bool {
	return off >= 0 && off <= len(r.bytes)-size
}

// begins tells whether a granule that is there begins at off.
func (r *Ram) begins(off int) bool {
	return off%api.Granule == 0 && r.has(off, api.Granule)
}

// number is the number of so many bytes that are there.
func (r *Ram) number(off, size int) uint64 {
	v := uint64(0)
	for i, b := range r.bytes[off : off+size] {
		v |= uint64(b) << (8 * i)
	}
	return v
}

// lay lays so many of a number's lowest bytes where they are there.
func (r *Ram) lay(off, size int, v uint64) {
	for i := range size {
		r.bytes[off+i] = byte(v >> (8 * i))
	}
}
