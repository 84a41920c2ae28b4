package walk

import (
	"slices"

	"pairworks/api"
)

// looked is a tour's views that are valid and looked at.
type looked struct{ api.Tour }

func valid(t api.Tour) bool {
	views := len(t.From)
	if !inDay(t.Dawn) || views > api.MaxWalkViews || len(t.Ways) != views {
		return false
	}
	lists := append([][]api.Span{t.From, t.Stay, t.Light}, t.Ways...)
	return !slices.ContainsFunc(lists, func(l []api.Span) bool {
		return len(l) != views || slices.ContainsFunc(l, isWrong)
	})
}

func isWrong(s api.Span) bool { return s.Lo > s.Hi || !inDay(s.Lo) || !inDay(s.Hi) }

func inDay(minute int) bool { return 0 <= minute && minute <= api.MaxMinute }

// isOrder returns whether a list has some of so many views, each at most once.
func isOrder(list []int, views int) bool {
	var has [api.MaxWalkViews]bool // by views
	for _, view := range list {
		if view < 0 || view >= views || has[view] {
			return false
		}
		has[view] = true
	}
	return true
}

// village is where one stands who is at no view yet.
const village = -1

// stand is where one stands on a walk, to which views one has gone until then, and when one leaves.
type stand struct {
	at     int
	gone   [api.MaxWalkViews]bool // by views
	leaves when
}

// start returns how one stands at the village.
func (l looked) start() stand { return stand{at: village, leaves: exactly(l.Dawn)} }

// roads returns how long the ways to each view take from where one stands.
func (l looked) roads(s stand) []api.Span {
	if s.at == village {
		return l.From
	}
	return l.Ways[s.at]
}

// begins returns when one begins at each view, if one goes there next.
func (l looked) begins(s stand) []when {
	begins := turned(l.roads(s), s.leaves.after)
	for view, light := range l.Light {
		begins[view] = begins[view].waits(light)
	}
	return begins
}

// stays returns how one stands at a view to which one has gone, and where one begins then.
func (l looked) stays(s stand, view int, begin when) stand {
	s.gone[view] = true
	return stand{at: view, gone: s.gone, leaves: begin.after(l.Stay[view])}
}

// walk walks an order, has the question hear of it, and returns when it is over.
func (l looked) walk(order []int, q question) when {
	s := l.start()
	for _, view := range order {
		begin := l.begins(s)[view]
		q.hear(view, begin, l.Light[view])
		s = l.stays(s, view, begin)
	}
	return s.leaves
}

// turned returns what a function makes of each of a list.
func turned[T, R any](list []T, into func(T) R) []R {
	made := make([]R, len(list))
	for k, x := range list {
		made[k] = into(x)
	}
	return made
}
