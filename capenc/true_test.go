package capenc_test

import (
	"fmt"
	"strconv"

	"ravelin/api"
)

// What the document's words say of capabilities as numbers, worked out by digits.

// nullMeta is the null's fields as bits: E's parts 4 and 6, Big, and all of TypeNone.
const nullMeta = 4 | 6<<14 | 1<<26 | (1<<18-1)<<27

// trueRight tells whether a capability is right, by the document's words one by one.
func trueRight(c api.Cap) bool {
	switch {
	case c.Perms < 0 || c.Perms > 65535, c.Type < 0 || c.Type > 262143, c.B < 0 || c.B > 16383, c.T < 0 || c.T > 4095:
		return false
	case c.Mode != 0 && c.Mode != 1, c.E < 0 || c.E > 52:
		return false
	case c.Big:
		return c.B%8 == 0 && c.T%8 == 0
	}
	return c.E == 0
}

// trueMeta is what a right capability but for its tag and address is packed to.
func trueMeta(c api.Cap) uint64 {
	b, t, big := fmt.Sprintf("%014b", c.B), fmt.Sprintf("%012b", c.T), "0"
	if c.Big {
		e := fmt.Sprintf("%06b", c.E)
		b, t, big = b[:11]+e[3:], t[:9]+e[:3], "1"
	}
	return number(fmt.Sprintf("00%016b%b%018b", c.Perms, c.Mode, c.Type)+big+t+b) ^ nullMeta
}

// trueUnpacked is the capability that numbers and a tag are.
func trueUnpacked(tag bool, addr, meta uint64) api.Cap {
	digits := fmt.Sprintf("%064b", meta^nullMeta)
	part := func(from, upTo int) int { return int(number(digits[from:upTo])) }
	c := api.Cap{Tag: tag, Addr: addr, Perms: part(2, 18), Mode: part(18, 19), Type: part(19, 37)}
	if digits[37] == '0' {
		c.T, c.B = part(38, 50), part(50, 64)
		return c
	}
	c.Big, c.T, c.B = true, part(38, 47)*8, part(50, 61)*8
	c.E = part(47, 50)*8 + part(61, 64)
	if c.E > 52 {
		c.E = 52
	}
	return c
}

// number is what binary digits tell.
func number(digits string) uint64 {
	n, err := strconv.ParseUint(digits, 2, 64)
	if err != nil {
		panic(err)
	}
	return n
}
