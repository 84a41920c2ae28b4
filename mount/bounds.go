package mount

import (
	"cmp"

	"pairworks/api"
)

func span(lo, hi int) api.Span { return api.Span{Lo: lo, Hi: hi} }

func inside(n int, s api.Span) bool { return s.Lo <= n && n <= s.Hi }

// least returns the least of some numbers.
func least[T cmp.Ordered](first T, others ...T) T {
	for _, n := range others {
		first = min(first, n)
	}
	return first
}

// greatest returns the greatest of some numbers.
func greatest[T cmp.Ordered](first T, others ...T) T {
	for _, n := range others {
		first = max(first, n)
	}
	return first
}

// bounds is the numbers from lo to hi; none if lo is above hi.
type bounds[T cmp.Ordered] struct{ lo, hi T }

// narrow leaves those numbers that are from lo to hi, too.
func (b *bounds[T]) narrow(lo, hi T) { b.lo, b.hi = greatest(b.lo, lo), least(b.hi, hi) }

// narrowed returns what is left of a span by all bounds that are told; ErrNone if nothing is.
func narrowed(s api.Span, tell func(say func(lo, hi int))) (api.Span, api.Errno) {
	b := bounds[int]{s.Lo, s.Hi}
	tell(b.narrow)
	if b.lo > b.hi {
		return api.Span{}, api.ErrNone
	}
	return span(b.lo, b.hi), api.OK
}
