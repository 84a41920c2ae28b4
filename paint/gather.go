package paint

// gatherer gathers marks of cases, which it takes one by one.
type gatherer interface {
	take(p painted)
	gathered() painted
}

// gather returns what is gathered of all cases; there must be one.
func (l looked) gather(g gatherer) painted {
	l.requireCase()
	for p := range l.cases(anyCase) {
		g.take(p)
	}
	return g.gathered()
}

// kept keeps the case that it takes first.
type kept struct {
	painted
	some bool // whether it took any
}

func (k *kept) take(p painted) {
	if !k.some {
		k.painted, k.some = p, true
	}
}

func (k *kept) gathered() painted { return k.painted }

// best keeps the case that comes before all others.
type best struct{ kept }

func (b *best) take(p painted) {
	b.kept.take(p)
	if p.isBefore(b.painted) {
		b.painted = p
	}
}

// joined keeps the marks of all cases.
type joined struct{ kept }

func (j *joined) take(p painted) {
	for row, marks := range p {
		j.painted[row] = join(j.painted[row], marks)
	}
}

// common keeps the marks that all cases have.
type common struct{ kept }

func (c *common) take(p painted) {
	c.kept.take(p)
	for row, marks := range p {
		c.painted[row] = c.painted[row].both(marks)
	}
}
