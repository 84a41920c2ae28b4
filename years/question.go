package years

import "pairworks/api"

// question is what is asked of a glacier.
type question[T any] interface {
	// fits returns whether the numbers with which it is asked can be, of so many things.
	fits(things int) bool
	// answer returns what is told; it panics if nothing is.
	answer(l looked) T
}

// ask returns the answer to a question, or the error with which the asking stopped.
func ask[T any](g api.Glacier, q question[T]) (told T, e api.Errno) {
	defer func() {
		switch stop := recover().(type) {
		case nil:
		case api.Errno:
			e = stop
		default:
			e = api.ErrArg // not expected: nothing but an error stops an asking
		}
	}()
	require(valid(g), api.ErrArg)
	require(q.fits(len(g.First.Things)), api.ErrRange)
	return q.answer(look(g)), api.OK
}

// require stops the asking with an error unless a condition holds.
func require(holds bool, e api.Errno) {
	if !holds {
		panic(e)
	}
}

// one is the number of a thing that is asked about.
type one int

func (n one) fits(things int) bool { return 0 <= n && int(n) < things }

// of returns the thing; it panics unless the thing is seen.
func (n one) of(l looked) thing {
	for k, t := range l.seen() {
		if k == int(n) {
			return t
		}
	}
	panic(api.ErrRefuse)
}

// length is a distance, or a difference of distances, that is asked about.
type length int

func (n length) fits(things int) bool { return 0 <= n && n <= api.MaxFar }

// every is no number: all things are asked about.
type every struct{}

func (every) fits(things int) bool { return true }

type moved struct{ one }

func (q moved) answer(l looked) span { return q.of(l).moved() }

type heights struct{ one }

func (q heights) answer(l looked) [2]span { return q.of(l).each(sight.height) }

type sank struct{ one }

func (q sank) answer(l looked) span { return q.of(l).sank() }

type rate struct{ one }

func (q rate) answer(l looked) span {
	s := q.of(l).moved()
	return span{down(s.Lo*api.YearDays, l.days()), up(s.Hi*api.YearDays, l.days())}
}

type stays struct{ every }

// stayed is the things that stayed in each truth, and those that did in some.
type stayed struct{ surely, can set }

func (stays) answer(l looked) (told stayed) {
	for k, t := range l.seen() {
		if t.surelyStays() {
			told.surely = told.surely.with(k)
		}
		if t.canStay() {
			told.can = told.can.with(k)
		}
	}
	return told
}

type fastest struct{ every }

func (fastest) answer(l looked) set {
	var found set
	moves := l.moves(l.all())
	for k, t := range l.seen() {
		if t.moved().keepsTo(moves, 0) {
			found = found.with(k)
		}
	}
	return found
}

type alike struct{ length }

func (q alike) answer(l looked) set {
	var best set
	try := func(s set) {
		if s.many() > best.many() && areAlike(l.moves(s), int(q.length)) {
			best = s
		}
	}
	for s := range l.all() + 1 {
		if s.without(l.all()) == 0 {
			try(s)
		}
	}
	return best
}

type arrives struct {
	one
	far length
}

func (q arrives) fits(things int) bool { return q.one.fits(things) && q.far.fits(things) }

// answer returns the first day and the last one: the farther away the thing was at first, and the nearer it is then, the sooner it is there.
func (q arrives) answer(l looked) [2]int {
	far := q.of(l).each(sight.distance)
	soonest := l.arrival(far[0].Hi, far[1].Lo, int(q.far))
	require(soonest != api.NoDay, api.ErrNone)
	return [2]int{soonest, l.arrival(far[0].Lo, far[1].Hi, int(q.far))}
}
