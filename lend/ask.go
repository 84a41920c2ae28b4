package lend

import "pairworks/api"

// ask returns what is told of a cabinet, or the error with which the asking stopped.
func ask[T any](c api.Cabinet, answer func(looked) T) (told T, e api.Errno) {
	defer func() {
		switch stop := recover().(type) {
		case nil:
		case api.Errno:
			e = stop
		default:
			e = api.ErrArg // not expected: nothing but an error stops an asking
		}
	}()
	l := looked{c}
	require(l.valid(), api.ErrArg)
	return answer(l), api.OK
}

// require stops the asking with an error unless a condition holds.
func require(holds bool, e api.Errno) {
	if !holds {
		panic(e)
	}
}
