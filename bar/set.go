package bar

import (
	"iter"
	"math/bits"
)

// set is sets by bits: of slots, which are plans, and of scenes.
type set interface{ ~int }

// only returns the set of just one number.
func only[S set](k int) S { return 1 << k }

// below returns the set of all numbers that are less than many.
func below[S set](many int) S { return 1<<many - 1 }

// join returns all that is in any of the sets.
func join[S set](sets ...S) S {
	var all S
	for _, s := range sets {
		all |= s
	}
	return all
}

func size[S set](s S) int { return bits.OnesCount(uint(s)) }

// each yields the numbers of a set, the least first.
func each[S set](s S) iter.Seq[int] {
	return func(yield func(int) bool) {
		for k := range bits.Len(uint(s)) {
			if s&only[S](k) != 0 && !yield(k) {
				return
			}
		}
	}
}

// first returns the first of all, and whether there is one.
func first[T any](all iter.Seq[T]) (one T, found bool) {
	for one := range all {
		return one, true
	}
	return one, false
}

// fold takes all into a result, one after the other.
func fold[T, R any](all iter.Seq[T], result R, take func(R, T) R) R {
	for one := range all {
		result = take(result, one)
	}
	return result
}
