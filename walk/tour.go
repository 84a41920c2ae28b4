package walk

import (
	"iter"
	"slices"

	"pairworks/api"
)

// tours yields all tours, in lexicographic order.
func (l looked) tours() iter.Seq[[]int] {
	return func(yield func([]int) bool) {
		var goOn func(order []int) bool
		goOn = func(order []int) bool {
			if len(order) == len(l.From) {
				return yield(order)
			}
			for view := range l.From {
				if !slices.Contains(order, view) && !goOn(slices.Concat(order, []int{view})) {
					return false
				}
			}
			return true
		}
		goOn(nil)
	}
}

// counted is how many tours are sure, and how many are walked in some truth.
type counted struct{ surely, can int }

func (l looked) count() (many counted) {
	for tour := range l.tours() {
		switch l.walked(tour) {
		case api.WalkAlways:
			many.surely++
			fallthrough
		case api.WalkPerhaps:
			many.can++
		}
	}
	return many
}

// before returns whether one view comes before another one: in each sure tour, in some, or in none.
func (l looked) before(one, other int) int {
	told := comes(l.shortest(), one, other)
tours:
	for tour := range l.tours() {
		switch {
		case l.walked(tour) != api.WalkAlways:
		case comes(tour, one, other) != told:
			told = api.WalkPerhaps
			break tours
		}
	}
	return told
}

// comes returns whether one view comes before another one in a tour.
func comes(tour []int, one, other int) int {
	var places [api.MaxWalkViews]int // by views
	for place, view := range tour {
		places[view] = place
	}
	if places[one] < places[other] {
		return api.WalkAlways
	}
	return api.WalkNever
}
