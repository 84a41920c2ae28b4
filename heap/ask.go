package heap

import "pairworks/api"

// ask returns what is told of boxes with a heap, or the error with which the asking stopped.
func ask[T any](m api.Mixed, answer func(looked) T) (told T, e api.Errno) {
	defer func() {
		switch stop := recover().(type) {
		case nil:
		case api.Errno:
			e = stop
		default:
			e = api.ErrArg // not expected: nothing but an error stops an asking
		}
	}()
	require(valid(m), api.ErrArg)
	return answer(look(m)), api.OK
}

// require stops the asking with an error unless a condition holds.
func require(holds bool, e api.Errno) {
	if !holds {
		panic(e)
	}
}

// requireOne stops the asking unless a list has one with this number.
func requireOne[T any](list []T, k int) { require(0 <= k && k < len(list), api.ErrRange) }
