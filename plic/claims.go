package plic

// first is the source that a context would claim: what interrupts it, and what it claims, are one so. 0, if there is none.
func (p *Plic) first(c *context) uint32 {
	there := p.pending.Load() & c.enabled
	best := uint32(0)
	for s := range uint32(sources) {
		if there>>s&1 == 1 && p.priorities[s] > p.priorities[best] {
			best = s
		}
	}
	return best
}

// claim takes that source into service.
func (p *Plic) claim(c *context) uint32 {
	source := p.first(c)
	if source != 0 {
		p.pending.And(^(uint32(1) << source))
		p.service.Or(uint32(1) << source)
	}
	return source
}

// complete takes a source out of service. A number above 31 has no bit, nor has the 0 one that is enabled.
func (p *Plic) complete(c *context, source uint32) {
	p.service.And(^(uint32(1) << source & c.enabled))
}
