package clint

import "math"

// number is one of those of which the registers are parts.
type number int

const (
	nothing number = iota
	bell
	alarm
	clock
)

// part is bits of a number: how far they are shifted there, and which they are when they are not.
type part struct {
	of    number
	shift int
	mask  uint64
}

// place is where a register stands, and how many bytes it has.
type place struct{ off, size int }

const (
	half  = 4
	whole = 8
)

// Offsets of registers; an upper half stands behind its lower one.
const (
	bellAt  = 0
	alarmAt = 0x4000
	clockAt = 0xBFF8
)

// find is the part that the register at a place is.
func find(off, size int) part {
	switch (place{off, size}) {
	case place{bellAt, half}:
		return part{bell, 0, 1}
	case place{alarmAt, whole}:
		return part{alarm, 0, math.MaxUint64}
	case place{alarmAt, half}:
		return part{alarm, 0, math.MaxUint32}
	case place{alarmAt + half, half}:
		return part{alarm, 8 * half, math.MaxUint32}
	case place{clockAt, whole}:
		return part{clock, 0, math.MaxUint64}
	case place{clockAt, half}:
		return part{clock, 0, math.MaxUint32}
	case place{clockAt + half, half}:
		return part{clock, 8 * half, math.MaxUint32}
	}
	return part{}
}

// read is a number.
func (c *Clint) read(of number) uint64 {
	switch of {
	case bell:
		return c.bell
	case alarm:
		return c.alarm
	case clock:
		return c.time.Load()
	}
	return 0
}

// write lays a number.
func (c *Clint) write(of number, v uint64) {
	switch of {
	case bell:
		c.bell = v
	case alarm:
		c.alarm = v
	case clock:
		c.time.Store(v)
	}
}
