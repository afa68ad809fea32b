package ram

import (
	"math/bits"

	"ravelin/api"
)

// perWord is how many tags a word holds.
const perWord = 64

// tags is the tags of as many granules as the greatest memory has: of each a bit, the first one's the lowest of the first word.
type tags [api.MaxRam / api.Granule / perWord]uint64

// is tells whether a granule has a tag.
func (t *tags) is(granule int) bool {
	return t[granule/perWord]>>(granule%perWord)&1 == 1
}

// set gives a granule a tag, or takes it.
func (t *tags) set(granule int, tag bool) {
	bit := uint64(1) << (granule % perWord)
	if tag {
		t[granule/perWord] |= bit
	} else {
		t[granule/perWord] &^= bit
	}
}

// granules is those that have a tag, rising.
func (t *tags) granules() []int {
	var list []int
	for i, word := range t {
		for ; word != 0; word &= word - 1 {
			list = append(list, i*perWord+bits.TrailingZeros64(word))
		}
	}
	return list
}
