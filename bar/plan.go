package bar

import "pairworks/api"

// gap is two slots, one to the left of the other one.
type gap struct{ left, right int }

// noGap is no gap: no slot is to the left of itself.
func noGap() gap { return gap{} }

// between returns the slots that lie between both.
func (g gap) between() plan { return below[plan](g.right).without(below[plan](g.left + 1)) }

// gapsByWidth returns the gaps of so many slots, by how many slots they are wide, from left to right.
func gapsByWidth(slots int) [api.MaxBar][]gap {
	var all [api.MaxBar][]gap
	for right := range slots {
		for left := range right {
			all[right-left] = append(all[right-left], gap{left, right})
		}
	}
	return all
}

// plan is a set of slots.
type plan int

// both returns the slots that two plans have in common.
func (p plan) both(other plan) plan { return p & other }

// without returns the slots that a plan has, and another one has not.
func (p plan) without(other plan) plan { return p &^ other }

func (p plan) has(slot int) bool { return p>>slot&1 != 0 }

// allows returns whether a plan has both slots of a gap, and at most so many between them.
func (p plan) allows(g gap, calm int) bool {
	return p.has(g.left) && p.has(g.right) && p.crowd(g) <= calm
}

// crowd returns how many slots of a plan lie between those of a gap.
func (p plan) crowd(g gap) int { return size(p.both(g.between())) }

// clearer returns the one of two gaps that has fewer slots of a plan between its own, the first if both have as many; any gap is clearer than none.
func (p plan) clearer(one, other gap) gap {
	if one == noGap() || p.crowd(other) < p.crowd(one) {
		return other
	}
	return one
}

// next returns the least greater number of as many slots; the plan has some.
func (p plan) next() plan {
	lowest := p.both(-p)
	// Of the slots that follow one on another, from the lowest on, the last one moves up by one, and all others to the bottom.
	up := p + lowest
	return join(up, p.without(up)/lowest>>1)
}
