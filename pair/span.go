package pair

import "pairworks/api"

// span returns the span from lo to hi; it is empty if lo is above hi.
func span(lo, hi int) api.Span { return api.Span{Lo: lo, Hi: hi} }

// nothing returns an empty span of powers.
func nothing() api.Span { return span(1, 0) }

func empty(s api.Span) bool { return s.Lo > s.Hi }

func inside(n int, s api.Span) bool { return s.Lo <= n && n <= s.Hi }

// within returns whether all spans are valid, and within a limit.
func within(limit api.Span, spans ...api.Span) bool {
	for _, s := range spans {
		if empty(s) || s.Lo < limit.Lo || s.Hi > limit.Hi {
			return false
		}
	}
	return true
}

// overlap returns what a span has in common with all others.
func overlap(s api.Span, others ...api.Span) api.Span {
	for _, o := range others {
		s = span(max(s.Lo, o.Lo), min(s.Hi, o.Hi))
	}
	return s
}

// narrow returns what is left of a span by what each of a list says.
func narrow[T any](s api.Span, list []T, says func(T) api.Span) api.Span {
	var said []api.Span
	for _, x := range list {
		said = append(said, says(x))
	}
	return overlap(s, said...)
}

// cover returns the least span with all of a span, and a number.
func cover(s api.Span, n int) api.Span { return span(min(s.Lo, n), max(s.Hi, n)) }
