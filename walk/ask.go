package walk

import "pairworks/api"

// ask returns what is told of a tour's views, if it is asked about this order, or the error with which the asking stopped.
func ask[T any](t api.Tour, order []int, answer func(looked) T) (told T, e api.Errno) {
	defer func() {
		switch stop := recover().(type) {
		case nil:
		case api.Errno:
			e = stop
		default:
			e = api.ErrArg // not expected: nothing but an error stops an asking
		}
	}()
	require(valid(t), api.ErrArg)
	require(isOrder(order, len(t.From)), api.ErrRange)
	return answer(looked{t}), api.OK
}

// require stops the asking with an error unless a condition holds.
func require(holds bool, e api.Errno) {
	if !holds {
		panic(e)
	}
}

// question is what is asked of a walk: it hears of each view, in the order of the walk, when one begins there, and when there is light to.
type question interface {
	hear(view int, begin when, light api.Span)
}

// sureness is whether an order is walked, as far as it was heard.
type sureness int

func (s *sureness) hear(_ int, begin when, light api.Span) {
	*s = min(*s, sureness(begin.inTime(light)))
}

// times is when one begins at each view, and when an order is over.
type times struct {
	begin []api.Span
	over  api.Span
}

func (t *times) hear(_ int, begin when, _ api.Span) { t.begin = append(t.begin, begin.span()) }

// delay is the first view at which one can be too late, if there is one, and whether one surely is.
type delay struct {
	found, surely bool
	view          int
}

func (d *delay) hear(view int, begin when, light api.Span) {
	inTime := begin.inTime(light)
	if !d.found && inTime != api.WalkAlways {
		*d = delay{found: true, surely: inTime == api.WalkNever, view: view}
	}
}
