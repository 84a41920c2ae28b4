package match

import (
	"cmp"

	"pairworks/api"
)

// span returns the span from lo to hi; it is empty if lo is above hi.
func span(lo, hi int) api.Span { return api.Span{Lo: lo, Hi: hi} }

func empty(s api.Span) bool { return s.Lo > s.Hi }

// within returns whether a span is valid, and within a limit.
func within(s, limit api.Span) bool {
	return !empty(s) && limit.Lo <= s.Lo && s.Hi <= limit.Hi
}

// overlap returns what two spans have in common.
func overlap(one, other api.Span) api.Span {
	return span(max(one.Lo, other.Lo), min(one.Hi, other.Hi))
}

// ends keeps the least and the greatest of the numbers that it takes.
type ends[T cmp.Ordered] struct {
	least, greatest T
	some            bool // whether it took any
}

func (e *ends[T]) take(numbers ...T) {
	for _, n := range numbers {
		if !e.some {
			*e = ends[T]{n, n, true}
		}
		e.least, e.greatest = min(e.least, n), max(e.greatest, n)
	}
}
