package paint

import "pairworks/api"

// ask returns what is told of a canvas, if it is asked about these sets of its marks, or the error with which the asking stopped.
func ask[T any](c api.Canvas, answer func(looked) T, sets ...painted) (told T, e api.Errno) {
	defer func() {
		switch stop := recover().(type) {
		case nil:
		case api.Errno:
			e = stop
		default:
			e = api.ErrArg // not expected: nothing but an error stops an asking
		}
	}()
	require(valid(c), api.ErrArg)
	l := look(c)
	for _, p := range sets {
		require(l.hasMarks(p), api.ErrRange)
	}
	return answer(l), api.OK
}

// require stops the asking with an error unless a condition holds.
func require(holds bool, e api.Errno) {
	if !holds {
		panic(e)
	}
}

// tell returns what is gathered of all cases of a canvas.
func tell(c api.Canvas, g gatherer) (left, right int, e api.Errno) {
	p, e := ask(c, func(l looked) painted { return l.gather(g) })
	return int(p[leftRow]), int(p[rightRow]), e
}
