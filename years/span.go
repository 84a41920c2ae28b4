package years

import (
	"cmp"
	"iter"
	"math/bits"
	"slices"

	"pairworks/api"
)

// span is a span with which one can reckon; it is empty if Lo is above Hi.
type span api.Span

// less returns the numbers of a span less those of another one.
func (s span) less(other span) span { return span{s.Lo - other.Hi, s.Hi - other.Lo} }

// common returns what two spans have in common.
func (s span) common(other span) span { return span{max(s.Lo, other.Lo), min(s.Hi, other.Hi)} }

func (s span) has(n int) bool { return s.Lo <= n && n <= s.Hi }

// nearest returns the number of a span that is nearest to n.
func (s span) nearest(n int) int { return min(max(n, s.Lo), s.Hi) }

// all yields the numbers of a span.
func (s span) all() iter.Seq[int] {
	return func(yield func(int) bool) {
		for n := s.Lo; n <= s.Hi && yield(n); n++ {
		}
	}
}

// keepsTo returns whether a number of a span can be greater by at most so much than one of each of some spans.
func (s span) keepsTo(others []span, most int) bool {
	return !slices.ContainsFunc(turned(others, s.less), func(more span) bool { return more.Lo > most })
}

// areAlike returns whether numbers of all spans can differ by at most so much: they can if those of each two can.
func areAlike(list []span, most int) bool {
	return !slices.ContainsFunc(list, func(s span) bool { return !s.keepsTo(list, most) })
}

// turned returns what a function makes of each of a list.
func turned[T, R any](list []T, into func(T) R) []R {
	var made []R
	for _, x := range list {
		made = append(made, into(x))
	}
	return made
}

// ends returns the least and the greatest of some numbers.
func ends[N cmp.Ordered](first N, others ...N) (least, greatest N) {
	least, greatest = first, first
	for _, n := range others {
		least, greatest = min(least, n), max(greatest, n)
	}
	return least, greatest
}

// down returns a number, divided by one above 0, rounded down.
func down(n, by int) int {
	if n%by < 0 {
		return n/by - 1
	}
	return n / by
}

// up returns a number, divided by one above 0, rounded up.
func up(n, by int) int { return -down(-n, by) }

// set is a set of things, by bits.
type set int

func (s set) with(thing int) set { return s | 1<<thing }

func (s set) has(thing int) bool { return s>>thing&1 != 0 }

func (s set) without(other set) set { return s &^ other }

func (s set) many() int { return bits.OnesCount(uint(s)) }
