package years

import (
	"iter"

	"pairworks/api"
	"pairworks/pair"
)

// looked is a valid glacier that is looked at; both of its pairs have a truth.
type looked struct {
	api.Glacier
	things []thing // by their numbers
}

// both returns the first pair, and the second one.
func both(g api.Glacier) [2]api.Pair { return [2]api.Pair{g.First, g.Second} }

func valid(g api.Glacier) bool {
	for _, p := range both(g) {
		if _, e := pair.Power(p); e == api.ErrArg {
			return false
		}
	}
	days := span{0, api.MaxDay}
	return len(g.First.Things) == len(g.Second.Things) &&
		days.has(g.FirstDay) && days.has(g.SecondDay) && g.FirstDay < g.SecondDay
}

// look looks at a valid glacier; it panics if one of its pairs has no truth.
func look(g api.Glacier) looked {
	l := looked{Glacier: g, things: make([]thing, len(g.First.Things))}
	for year, p := range both(g) {
		_, e := pair.Power(p)
		require(e == api.OK, e)
		for k := range p.Things {
			l.things[k][year] = see(p, k)
		}
	}
	return l
}

// see returns what a pair tells of the thing with this number.
func see(p api.Pair, k int) sight {
	far, e := pair.Distance(p, k)
	return sight{seen: e == api.OK, far: span(far), place: span(p.Things[k].Left.Y), focal: span(p.Focal)}
}

// seen yields the things that are seen, with their numbers.
func (l looked) seen() iter.Seq2[int, thing] {
	return func(yield func(int, thing) bool) {
	things:
		for k, t := range l.things {
			for _, s := range t {
				if !s.seen {
					continue things
				}
			}
			if !yield(k, t) {
				return
			}
		}
	}
}

// all returns the set of all things that are seen.
func (l looked) all() set {
	var all set
	for k := range l.seen() {
		all = all.with(k)
	}
	return all
}

// moves returns by how much the things of a set moved, of those that are seen.
func (l looked) moves(wanted set) []span {
	var list []span
	for k, t := range l.seen() {
		if wanted.has(k) {
			list = append(list, t.moved())
		}
	}
	return list
}

// days returns how many days are between both pairs.
func (l looked) days() int { return l.SecondDay - l.FirstDay }

// arrival returns the day on which a thing with these distances is at most so far away.
func (l looked) arrival(first, second, far int) int {
	if second <= far {
		return l.SecondDay
	}
	if second >= first {
		return api.NoDay
	}
	day := l.SecondDay + up((second-far)*l.days(), first-second)
	if day > api.MaxDay {
		return api.NoDay
	}
	return day
}
