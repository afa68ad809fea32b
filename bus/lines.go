package bus

// The controller's contexts.
const (
	machine    = 0
	supervisor = 1
)

// Bits of mip: those of the clint, and those of the controller's two contexts.
const (
	softBit       = 3
	timerBit      = 7
	supervisorBit = 9
	machineBit    = 11
)

// line is that bit, if its line is high.
func line(high bool, bit uint) uint64 {
	if high {
		return 1 << bit
	}
	return 0
}
