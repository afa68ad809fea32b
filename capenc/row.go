package capenc

// row is a row of bits: fields are put in behind one another from bit 0 on, and taken out in the same order.
type row[W uint8 | uint64] struct {
	bits W
	next uint // where the next field begins
}

// put puts a field's lowest bits in, as many as it is wide.
func (r *row[W]) put(field int, width uint) {
	r.bits |= W(field) & lowest[W](width) << r.next
	r.next += width
}

// take takes out a field that is so wide.
func (r *row[W]) take(width uint) int {
	field := r.bits >> r.next & lowest[W](width)
	r.next += width
	return int(field)
}

// lowest is a number of which just so many of the lowest bits are set.
func lowest[W uint8 | uint64](width uint) W {
	return W(1)<<width - 1
}
