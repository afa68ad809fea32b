package serial

import "ravelin/api"

// Power is the switch.
type Power struct{ off bool }

// NewPower is one that is on.
func NewPower() *Power { return &Power{} }

// Off tells whether it was turned off.
func (p *Power) Off() bool { return p.off }

// Load reads its register of 4 bytes.
func (p *Power) Load(off, size int) (uint64, bool) { return 0, isSwitch(off, size) }

// Store writes it.
func (p *Power) Store(off, size int, v uint64) bool {
	if !isSwitch(off, size) {
		return false
	}
	if uint32(v) == api.PowerOff {
		p.off = true
	}
	return true
}

// isSwitch tells whether the register stands there.
func isSwitch(off, size int) bool { return off == 0 && size == 4 }
