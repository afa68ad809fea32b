package serial

// Offsets of the registers that do something; the others up to the last one tell 0.
const (
	data   = 0
	enable = 1
	status = 5
	last   = 7
)

// free is the bits of the status that say that bytes can be told, which is always so; the lowest one says that a byte is kept.
const free = 0x60

// isRegister tells whether one stands there.
func isRegister(off, size int) bool { return size == 1 && 0 <= off && off <= last }

// read is what a register tells; what is read of the data is gone.
func (u *Uart) read(off int) uint64 {
	switch off {
	case data:
		return uint64(u.take())
	case enable:
		return bit(u.enabled)
	case status:
		return free | bit(u.Waits() > 0)
	}
	return 0
}

// write does what a register does.
func (u *Uart) write(off int, v uint64) {
	switch off {
	case data:
		u.told = int(byte(v))
	case enable:
		u.enabled = v&1 == 1
	}
}

// bit is 1, if it is so.
func bit(is bool) uint64 {
	if is {
		return 1
	}
	return 0
}
