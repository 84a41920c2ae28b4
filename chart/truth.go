package chart

import (
	"slices"

	"pairworks/api"
)

// broken returns the circles whose sights cannot all be right, in order. Sights cannot all be right just if they have such a circle.
func (l looked) broken() []set {
	var found []set
circles:
	for c := range l.circles() {
		// It is the same one, also if it begins elsewhere or goes the other way round.
		for _, known := range found {
			if known == c.sights {
				continue circles
			}
		}
		if !c.closes() {
			found = append(found, c.sights)
		}
	}
	slices.SortFunc(found, set.compare)
	return found
}

// wrong returns the first set of the fewest sights that cannot all be right; an empty one if all can.
func (l looked) wrong() set {
	broken := l.broken()
	if len(broken) == 0 {
		return 0
	}
	return broken[0]
}

// dropped returns the first set of the fewest sights without which all others can be right.
func (l looked) dropped() set {
	broken, all := l.broken(), parts(len(l.Sights))
	enough := func(part set) bool {
		stays := func(circle set) bool { return circle.without(part) == circle }
		return !slices.ContainsFunc(broken, stays)
	}
	return all[slices.IndexFunc(all, enough)] // the last one is: without any sight no circle stays
}

// told returns what some sights that can all be right tell of where one station lies from another one.
func (l looked) told(from, to int, by set) offset {
	o := anywhere()
	// What is told is as narrow as all ways between both stations make it.
	for w := range l.ways(from, to, by) {
		o = o.common(w.leads)
	}
	return o
}

// requireTruth stops the asking unless there is a truth.
func (l looked) requireTruth() { require(l.wrong() == 0, api.ErrNone) }

// between returns where one station lies from another one.
func (l looked) between(from, to int) offset {
	l.requireTruth()
	o := l.told(from, to, l.all())
	require(o != anywhere(), api.ErrDoubt)
	return o
}

// draw returns the map.
func (l looked) draw() []api.Spot {
	var spots []api.Spot
	for station := range l.Stations {
		o := l.between(0, station)
		spots = append(spots, api.Spot{East: o[toEast].Lo, North: o[toNorth].Lo})
	}
	return spots
}

// idle returns the sights of which all others tell at least as much.
func (l looked) idle() set {
	l.requireTruth()
	var found set
	for k, s := range l.Sights {
		if l.told(s.From, s.To, l.all().without(setOf(k))).within(offsetOf(s)) {
			found = found.with(k)
		}
	}
	return found
}
