package walk

import (
	"sort"

	"pairworks/api"
)

// walked returns whether an order is walked: in each truth, in some, or in none.
func (l looked) walked(order []int) int {
	// If one is in time at each view in some truth, one is in time at all of them in the truth with the least minutes.
	s := sureness(api.WalkAlways)
	l.walk(order, &s)
	return int(s)
}

func (l looked) times(order []int) times {
	var t times
	over := l.walk(order, &t)
	t.over = over.span()
	return t
}

// late returns where an order fails that is not sure.
func (l looked) late(order []int) delay {
	var d delay
	l.walk(order, &d)
	require(d.found, api.ErrNone)
	return d
}

// later returns by how many minutes later one can leave the village, so that an order that is sure stays so.
func (l looked) later(order []int) int {
	require(l.walked(order) == api.WalkAlways, api.ErrNone)
	// Who leaves later is nowhere earlier: once an order is not sure, it is not if one leaves still later.
	return sort.Search(api.MaxMinute-l.Dawn, func(minutes int) bool {
		return l.leaving(l.Dawn+minutes+1).walked(order) != api.WalkAlways
	})
}

// leaving returns the same views, if one leaves the village at this minute.
func (l looked) leaving(minute int) looked {
	l.Dawn = minute
	return l
}
