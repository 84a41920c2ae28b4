package copy

import "pairworks/api"

// ask returns what is told of prints, if it is asked about these cards of them, or the error with which the asking stopped.
func ask[T any](p api.Prints, answer func(looked) T, cards ...int) (told T, e api.Errno) {
	defer func() {
		switch stop := recover().(type) {
		case nil:
		case api.Errno:
			e = stop
		default:
			e = api.ErrArg // not expected: nothing but an error stops an asking
		}
	}()
	require(valid(p), api.ErrArg)
	require(areCards(cards, len(p.Cards)), api.ErrRange)
	return answer(looked{p}), api.OK
}

// require stops the asking with an error unless a condition holds.
func require(holds bool, e api.Errno) {
	if !holds {
		panic(e)
	}
}

// least returns the first one of those that are worth the least.
func least[T any](worth func(T) int, first T, others ...T) T {
	for _, x := range others {
		if worth(x) < worth(first) {
			first = x
		}
	}
	return first
}
