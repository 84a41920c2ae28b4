package pair

import (
	"iter"

	"pairworks/api"
)

// looked is a valid pair that is looked at.
type looked struct {
	api.Pair
	seen  []sighting
	power api.Span // of all truths; empty if there is none
}

// look looks at a pair; it panics unless the pair is valid.
func look(p api.Pair) looked {
	check(p)
	l := looked{Pair: p}
	var marks set
	for k, t := range p.Things {
		l.seen = append(l.seen, l.see(t))
		if t.Far != 0 {
			marks = marks.with(k)
		}
	}
	// Only landmarks stand still in each truth: any other thing can have moved.
	whole := span(p.Focal.Lo*p.Base.Lo, p.Focal.Hi*p.Base.Hi)
	l.power = narrow(whole, l.pick(marks.has), sighting.steadyPower)
	return l
}

// check panics unless the pair is valid.
func check(p api.Pair) {
	require(within(span(1, api.MaxFocal), p.Focal), api.ErrArg)
	require(within(span(1, api.MaxBase), p.Base), api.ErrArg)
	require(inside(p.Tilt, span(0, api.MaxTilt)), api.ErrArg)
	require(inside(p.Near, span(api.MaxShift, api.MaxFar)), api.ErrArg)
	require(inside(p.Far, span(p.Near, api.MaxFar)), api.ErrArg)
	require(len(p.Things) <= api.MaxThings, api.ErrArg)
	plate := span(-api.MaxPlate, api.MaxPlate)
	for _, t := range p.Things {
		require(within(plate, t.Left.X, t.Left.Y, t.Right.X, t.Right.Y), api.ErrArg)
		require(t.Far == 0 || inside(t.Far, span(p.Near, p.Far)), api.ErrArg)
	}
}

// see returns what is seen of a thing of the pair.
func (l looked) see(t api.Thing) sighting {
	s := sighting{
		witness: stranger{l.Near, l.Far},
		shift:   span(t.Left.X.Lo-t.Right.X.Hi, t.Left.X.Hi-t.Right.X.Lo),
		slanted: max(t.Left.Y.Lo-t.Right.Y.Hi, t.Right.Y.Lo-t.Left.Y.Hi) > l.Tilt,
	}
	if t.Far != 0 {
		s.witness = landmark(t.Far)
	}
	return s
}

// thing returns what is seen of the thing with this number; it panics if there is none.
func (l looked) thing(k int) sighting {
	require(k >= 0 && k < len(l.seen), api.ErrRange)
	return l.seen[k]
}

// pick returns the things whose numbers are wanted.
func (l looked) pick(wanted func(thing int) bool) []sighting {
	var list []sighting
	for k, s := range l.seen {
		if wanted(k) {
			list = append(list, s)
		}
	}
	return list
}

// truths returns the powers of all truths; it panics if there is no truth.
func (l looked) truths() api.Span {
	require(!empty(l.power), api.ErrNone)
	return l.power
}

// tries yields both ends of the powers of all truths, and of those of them with which each thing stands still.
func (l looked) tries() iter.Seq[int] {
	power := l.truths()
	return func(yield func(int) bool) {
		if !yield(power.Lo) || !yield(power.Hi) {
			return
		}
	things:
		for _, s := range l.seen {
			part := overlap(power, s.steadyPower())
			for _, end := range []int{part.Lo, part.Hi} {
				if !inside(end, part) {
					continue things
				}
				if !yield(end) {
					return
				}
			}
		}
	}
}

// fewest returns the best set of things that moved, and the powers of the truths in which just these moved, or some of them.
func (l looked) fewest() best {
	b := best{rank: rank{many: len(l.seen) + 1}}
	// The ends of the powers of a best set are tried: each is an end of the powers of a thing that stands still, or of all truths.
	for power := range l.tries() {
		found := l.rank(power)
		switch {
		case found == b.rank:
			b.power = cover(b.power, power)
		case found.before(b.rank):
			b = best{rank: found, power: span(power, power)}
		}
	}
	return b
}

// rank returns the rank of the set of things that cannot stand still with this power.
func (l looked) rank(power int) rank {
	var moved set
	for k, s := range l.seen {
		if s.why(span(power, power)) != stood {
			moved = moved.with(k)
		}
	}
	return rank{many: moved.many(), moved: moved}
}
