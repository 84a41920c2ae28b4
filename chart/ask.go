package chart

import "pairworks/api"

// ask returns what is told of a chart, if it is asked about these stations, or the error with which the asking stopped.
func ask[T any](c api.Chart, answer func(looked) T, stations ...int) (told T, e api.Errno) {
	defer func() {
		switch stop := recover().(type) {
		case nil:
		case api.Errno:
			e = stop
		default:
			e = api.ErrArg // not expected: nothing but an error stops an asking
		}
	}()
	require(valid(c), api.ErrArg)
	for _, station := range stations {
		require(isStation(c, station), api.ErrRange)
	}
	return answer(look(c)), api.OK
}

// require stops the asking with an error unless a condition holds.
func require(holds bool, e api.Errno) {
	if !holds {
		panic(e)
	}
}
