package plic

const (
	sources  = 32 // with the 0, which is none
	contexts = 2
)

// noSource is the bit of the 0 in words of sources.
const noSource = 1

// highest is the greatest priority and the greatest threshold, and all their bits.
const highest = 7

// register is what a register has; those from enabled on are a context's.
type register int

const (
	nothing register = iota
	priority
	pending
	enabled
	threshold
	claim
)

const width = 4 // bytes of a register

// Offsets of registers, and what lies from a context's to the next one's.
const (
	pendingAt   = 0x1000
	enabledAt   = 0x2000
	enabledStep = 0x80
	contextAt   = 0x200000
	contextStep = 0x1000
)

// find is what the register at an offset has, and of which source or context.
func find(off, size int) (what register, n int) {
	switch {
	case size != width || off < 0 || off%width != 0:
		return nothing, 0
	case off < sources*width:
		return priority, off / width
	case off == pendingAt:
		return pending, 0
	}
	for c := range contexts {
		switch off {
		case enabledAt + c*enabledStep:
			return enabled, c
		case contextAt + c*contextStep:
			return threshold, c
		case contextAt + c*contextStep + width:
			return claim, c
		}
	}
	return nothing, 0
}

// read is what a register has; of a claim, what is claimed by that.
func (p *Plic) read(what register, n int) uint32 {
	switch what {
	case priority:
		return p.priorities[n]
	case pending:
		return p.pending.Load()
	case enabled:
		return p.contexts[n].enabled
	case threshold:
		return p.contexts[n].threshold
	case claim:
		return p.claim(&p.contexts[n])
	}
	return 0
}

// write lays what a register has; by a claim, it completes.
func (p *Plic) write(what register, n int, v uint32) {
	switch what {
	case priority:
		p.prioritise(n, v)
	case enabled:
		p.contexts[n].enabled = v &^ noSource
	case threshold:
		p.contexts[n].threshold = v & highest
	case claim:
		p.complete(&p.contexts[n], v)
	}
}

// prioritise gives a source its priority. The 0 keeps none: it stands for there being no source.
func (p *Plic) prioritise(source int, v uint32) {
	if source != 0 {
		p.priorities[source] = v & highest
	}
}
