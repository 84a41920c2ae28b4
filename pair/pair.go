// Package pair is layer 1: how far away things are that stand in two pictures, and which of them moved.
package pair

import "pairworks/api"

// Shift returns by how much the places of a thing differ.
func Shift(p api.Pair, thing int) (api.Span, api.Errno) {
	return answer(p, func(l looked) api.Span { return l.thing(thing).shift })
}

// Nearer returns whether a thing is nearer than another one.
func Nearer(p api.Pair, a, b int) (int, api.Errno) {
	return answer(p, func(l looked) int {
		first, second := l.thing(a).shift, l.thing(b).shift
		switch {
		case first.Lo > second.Hi:
			return api.PairAlways
		case first.Hi <= second.Lo:
			return api.PairNever
		}
		return api.PairPerhaps
	})
}

// Power returns the power of a pair.
func Power(p api.Pair) (api.Span, api.Errno) { return answer(p, looked.truths) }

// Stands returns the shifts of a thing that is so far away.
func Stands(p api.Pair, far int) (api.Span, api.Errno) {
	return answer(p, func(l looked) api.Span {
		require(inside(far, span(l.Near, l.Far)), api.ErrRange)
		power := l.truths()
		return span(power.Lo/far, power.Hi/far)
	})
}

// Why returns why a thing moved.
func Why(p api.Pair, thing int) (int, api.Errno) {
	return answer(p, func(l looked) int {
		s := l.thing(thing)
		return s.why(l.truths())
	})
}

// Distance returns how far away a thing is.
func Distance(p api.Pair, thing int) (api.Span, api.Errno) {
	return answer(p, func(l looked) api.Span {
		s := l.thing(thing)
		power := l.truths()
		require(s.why(power) == stood, api.ErrRefuse)
		return s.distances(power, s.steady())
	})
}

// Fewest returns the fewest things that moved.
func Fewest(p api.Pair) (moved int, power api.Span, e api.Errno) {
	best, e := answer(p, looked.fewest)
	return int(best.moved), best.power, e
}

// answer returns what is asked of a pair, or the error with which the asking stopped.
func answer[T any](p api.Pair, ask func(looked) T) (result T, e api.Errno) {
	defer func() {
		if stop := recover(); stop != nil {
			e = errorOf(stop)
		}
	}()
	return ask(look(p)), api.OK
}

// require stops the asking with an error unless a condition holds.
func require(holds bool, e api.Errno) {
	if !holds {
		panic(e)
	}
}

// errorOf returns the error with which an asking stopped; nothing but require stops one, so that no other value is expected.
func errorOf(stop any) api.Errno {
	if e, ok := stop.(api.Errno); ok {
		return e
	}
	return api.ErrArg
}
