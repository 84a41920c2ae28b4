package mount

import (
	"iter"
	"sort"

	"pairworks/api"
	"pairworks/pair"
)

// looked is a valid card that is looked at; its pair has a truth.
type looked struct {
	api.Card
	seen map[int]thing // by their numbers
}

// thing is a thing that is seen.
type thing struct {
	left, right api.Span // the X of its places
	shift       api.Span
}

// look looks at a card, to ask about some trimmings of it.
func look(c api.Card, asked ...api.Cuts) (looked, api.Errno) {
	_, truth := pair.Power(c.Pair)
	if truth == api.ErrArg || !valid(c) {
		return looked{}, api.ErrArg
	}
	for _, cuts := range asked {
		if !isTrimming(cuts, c.Cuts) {
			return looked{}, api.ErrRange
		}
	}
	if truth != api.OK {
		return looked{}, truth
	}
	return looked{Card: c, seen: see(c.Pair)}, api.OK
}

// valid returns whether a card is valid, but for its pair.
func valid(c api.Card) bool {
	turns := span(0, api.MaxEyes)
	return inside(c.Half, span(1, api.MaxPlate)) &&
		inside(c.Step, span(1, api.MaxStep)) &&
		inside(c.Cuts, span(0, api.MaxCuts)) &&
		1 <= c.Eyes.Lo && c.Eyes.Lo <= c.Eyes.Hi && c.Eyes.Hi <= api.MaxEyes &&
		inside(c.Prism, turns) && inside(c.Squeeze, turns) &&
		inside(c.Front, turns) && inside(c.Deep, turns)
}

// isTrimming returns whether numbers are a trimming of a card each of whose edges is cut so many times at most.
func isTrimming(cuts api.Cuts, most int) bool {
	edges := span(0, most)
	return inside(cuts.LeftLeft, edges) && inside(cuts.LeftRight, edges) &&
		inside(cuts.RightLeft, edges) && inside(cuts.RightRight, edges) &&
		cuts.LeftLeft+cuts.LeftRight == cuts.RightLeft+cuts.RightRight
}

// see returns the things of a pair that can stand still; the pair has a truth.
func see(p api.Pair) map[int]thing {
	seen := map[int]thing{}
	for k, t := range p.Things {
		if why, e := pair.Why(p, k); e != api.OK || why != 0 {
			continue
		}
		if shift, e := pair.Shift(p, k); e == api.OK {
			seen[k] = thing{left: t.Left.X, right: t.Right.X, shift: shift}
		}
	}
	return seen
}

// things yields the things that are seen, in order.
func (l looked) things() iter.Seq2[int, thing] {
	return func(yield func(k int, x thing) bool) {
		for k := range l.Pair.Things {
			if x, seen := l.seen[k]; seen && !yield(k, x) {
				return
			}
		}
	}
}

// obstacle returns why no trimming helps, and the two things of which one must hurt, if two are enough for that; there is no such trimming.
func (l looked) obstacle() (why, a, b int) {
	// Both bounds of the distance on the card, and both sides of the window, are as far apart with any trimming.
	for _, limit := range [2]struct{ why, most int }{
		{api.ApartEyes, l.Eyes.Lo + l.Prism + l.Squeeze - l.Eyes.Hi},
		{api.ApartWindow, l.Front + l.Deep},
	} {
		if a, b, found := l.apart(limit.most); found {
			return limit.why, a, b
		}
	}
	return api.ApartCuts, 0, 0
}

// apart returns the first two things that are seen whose shifts can differ by more than most.
func (l looked) apart(most int) (a, b int, found bool) {
	for a, x := range l.things() {
		for b, y := range l.things() {
			if x.shift.Hi-y.shift.Lo > most {
				return a, b, true
			}
		}
	}
	return 0, 0, false
}

// depths returns the distances at which a thing has no shift that is not in the room.
func (l looked) depths(room api.Span) (api.Span, api.Errno) {
	near, many := l.Pair.Near, l.Pair.Far-l.Pair.Near+1
	stands := func(k int) api.Span {
		// No error is expected: the pair has a truth, and the distance is one of it.
		shifts, _ := pair.Stands(l.Pair, near+k)
		return shifts
	}
	// The farther away a thing is, the less are both ends of its shifts.
	first := sort.Search(many, func(k int) bool { return stands(k).Hi <= room.Hi })
	beyond := sort.Search(many, func(k int) bool { return stands(k).Lo < room.Lo })
	if first >= beyond {
		return api.Span{}, api.ErrNone
	}
	return span(near+first, near+beyond-1), api.OK
}
