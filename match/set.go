package match

import "iter"

// set is a set of numbers, by bits.
type set int

func setOf(k int) set { return 1 << k }

func (s set) has(k int) bool { return s&setOf(k) != 0 }

// both returns what two sets have in common.
func (s set) both(other set) set { return s & other }

// without returns what is in a set, and not in another one.
func (s set) without(other set) set { return s &^ other }

// join returns all that is in any of the sets.
func join(sets ...set) set {
	var all set
	for _, s := range sets {
		all |= s
	}
	return all
}

// gather returns the set of the numbers below many that are wanted.
func gather(many int, wanted func(k int) bool) set {
	var all set
	for k := range marks(many, wanted) {
		all = join(all, setOf(k))
	}
	return all
}

// marks yields the numbers below many that are wanted.
func marks(many int, wanted func(k int) bool) iter.Seq[int] {
	return func(yield func(k int) bool) {
		for k := range many {
			if wanted(k) && !yield(k) {
				return
			}
		}
	}
}
