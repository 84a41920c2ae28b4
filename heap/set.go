package heap

import (
	"iter"
	"math/bits"
)

// set is a set of entries, or of cards, by bits.
type set int

func setOf(n int) set { return 1 << n }

// below returns the set of all numbers that are less than many.
func below(many int) set { return 1<<many - 1 }

func (s set) has(n int) bool { return s>>n&1 != 0 }

// both returns what two sets have in common.
func (s set) both(other set) set { return s & other }

// without returns what is in a set, and not in another one.
func (s set) without(other set) set { return s &^ other }

func (s set) many() int { return bits.OnesCount(uint(s)) }

// join returns all that is in any of the sets.
func join(sets ...set) set {
	var all set
	for _, s := range sets {
		all |= s
	}
	return all
}

// numbers yields the numbers below many that are wanted.
func numbers(many int, wanted func(n int) bool) iter.Seq[int] {
	return func(yield func(n int) bool) {
		for n := range many {
			if wanted(n) && !yield(n) {
				return
			}
		}
	}
}

// sets yields all sets of numbers below many: those of fewer first, and of as many the lesser number.
func sets(many int) iter.Seq[set] {
	return func(yield func(set) bool) {
		for size := range many + 1 {
			for s := range below(many) + 1 {
				if s.many() == size && !yield(s) {
					return
				}
			}
		}
	}
}
