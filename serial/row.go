package serial

import "ravelin/api"

// row is the bytes that came, and were not read: so many from the first one on, going round in the array.
type row struct {
	bytes       [api.MaxInput]byte
	first, kept int
}

// Input is a byte that comes; false: it is lost.
func (r *row) Input(b byte) bool {
	if r.kept == len(r.bytes) {
		return false
	}
	r.bytes[(r.first+r.kept)%len(r.bytes)] = b
	r.kept++
	return true
}

// Waits is how many bytes have come, and were not read.
func (r *row) Waits() int { return r.kept }

// take is the first byte, which is not kept any more; 0, if there is none.
func (r *row) take() byte {
	if r.kept == 0 {
		return 0
	}
	b := r.bytes[r.first]
	r.bytes[r.first] = 0
	r.first = (r.first + 1) % len(r.bytes)
	r.kept--
	return b
}
