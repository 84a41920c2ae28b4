package walk

import (
	"cmp"
	"slices"

	"pairworks/api"
)

// end is how an order goes on from some view: to which views, and at which minute at most it is over.
type end struct {
	views []int
	over  int
}

// from returns an end with a view before it.
func (e end) from(view int) end { return end{slices.Concat([]int{view}, e.views), e.over} }

// rule is a rule by which one end is better than another one: the lesser one is.
type rule struct{ compare func(a, b end) int }

// rules returns all rules; the first one by which two ends differ decides.
func rules() []rule {
	return []rule{
		{func(a, b end) int { return cmp.Compare(len(b.views), len(a.views)) }},
		{func(a, b end) int { return cmp.Compare(a.over, b.over) }},
		{func(a, b end) int { return slices.Compare(a.views, b.views) }},
	}
}

// compare compares two ends by all rules.
func compare(a, b end) int {
	for _, r := range rules() {
		if told := r.compare(a, b); told != 0 {
			return told
		}
	}
	return 0
}

// best returns the best sure order.
func (l looked) best() []int {
	known := map[stand]end{}
	var best func(s stand) end
	best = func(s stand) end {
		if e, found := known[s]; found {
			return e
		}
		var ends []end
		for view, begin := range l.begins(s) {
			if !s.gone[view] && begin.inTime(l.Light[view]) == api.WalkAlways {
				ends = append(ends, best(l.stays(s, view, begin)).from(view))
			}
		}
		e := least(compare, end{over: s.leaves.greatest}, ends...)
		known[s] = e
		return e
	}
	return best(l.start()).views
}

// shortest returns the best sure tour: the best order, as no order has more views than a tour.
func (l looked) shortest() []int {
	tour := l.best()
	require(len(tour) == len(l.From), api.ErrNone)
	return tour
}

// least returns the first one of the least of several.
func least[T any](compare func(a, b T) int, first T, others ...T) T {
	for _, x := range others {
		if compare(x, first) < 0 {
			first = x
		}
	}
	return first
}
