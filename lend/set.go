package lend

import "cmp"

// set is a set of numbers, by bits.
type set int

func only(n int) set { return 1 << n }

func (s set) has(n int) bool { return s>>n&1 != 0 }

// join returns all that is in any of the sets.
func join(sets ...set) set {
	var all set
	for _, s := range sets {
		all |= s
	}
	return all
}

// those returns the numbers below many that are such.
func those(many int, are func(n int) bool) set {
	var all set
	for n := range many {
		if are(n) {
			all = join(all, only(n))
		}
	}
	return all
}

// ends keeps the least and the greatest of what it is given.
type ends[T cmp.Ordered] struct {
	least, greatest T
	given           bool
}

func (e *ends[T]) take(x T) {
	if !e.given {
		*e = ends[T]{x, x, true}
	}
	e.least, e.greatest = min(e.least, x), max(e.greatest, x)
}
