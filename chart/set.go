package chart

import (
	"cmp"
	"math/bits"
	"slices"
)

// set is a set of sights, or of stations, by bits.
type set int

// below returns the set of all numbers that are less than many.
func below(many int) set { return 1<<many - 1 }

// setOf returns the set of these numbers.
func setOf(numbers ...int) set {
	var s set
	for _, n := range numbers {
		s = s.with(n)
	}
	return s
}

func (s set) with(n int) set { return s | 1<<n }

func (s set) has(n int) bool { return s>>n&1 != 0 }

// without returns what a set has, and another one has not.
func (s set) without(other set) set { return s &^ other }

func (s set) many() int { return bits.OnesCount(uint(s)) }

// compare puts the set of fewer first, and of as many the lesser number.
func (s set) compare(other set) int {
	return cmp.Or(cmp.Compare(s.many(), other.many()), cmp.Compare(s, other))
}

// parts returns all sets of numbers that are less than many, in order.
func parts(many int) []set {
	var list []set
	for part := range below(many) + 1 {
		list = append(list, part)
	}
	slices.SortFunc(list, set.compare)
	return list
}
