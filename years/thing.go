package years

// sight is what one pair tells of a thing.
type sight struct {
	seen  bool
	far   span // its distances
	place span // above the middle
	focal span
}

func (s sight) distance() span { return s.far }

// height returns how high the thing stood; its least height, and its greatest one, is that of an end of each span.
func (s sight) height() span {
	low, high := ends(s.place.Lo*s.far.Lo, s.place.Lo*s.far.Hi, s.place.Hi*s.far.Lo, s.place.Hi*s.far.Hi)
	least, _ := ends(down(low, s.focal.Lo), down(low, s.focal.Hi))
	_, greatest := ends(down(high, s.focal.Lo), down(high, s.focal.Hi))
	return span{least, greatest}
}

// thing is what both pairs tell of a thing.
type thing [2]sight

// each returns what is asked of both pairs.
func (t thing) each(ask func(sight) span) [2]span { return [2]span{ask(t[0]), ask(t[1])} }

func (t thing) moved() span {
	far := t.each(sight.distance)
	return far[1].less(far[0])
}

func (t thing) sank() span {
	high := t.each(sight.height)
	return high[0].less(high[1])
}

// surelyStays returns whether the thing stayed in each truth.
func (t thing) surelyStays() bool {
	for _, ask := range [2]func(sight) span{sight.distance, sight.height} {
		told := t.each(ask)
		if told[1].less(told[0]) != (span{}) {
			return false
		}
	}
	return true
}

// canStay returns whether the thing stayed in some truth: it had one distance in both pairs, and one height with it.
func (t thing) canStay() bool {
	far := t[0].far.common(t[1].far)
	if far.Lo > far.Hi {
		return false
	}
	for first := range t[0].place.all() {
		for second := range t[1].place.all() {
			if t.canLevel(first, second, far) {
				return true
			}
		}
	}
	return false
}

// canLevel returns whether the thing can have had one height in both pairs, at these places above the middle and at one of these distances.
//
// A slope that lies between two others has the height that both have, wherever they have the same one. So it is enough to look at slopes of both pairs that are next to one another: for each run in the first pair, at the runs in the second one with which the slopes are equal, or nearly so.
func (t thing) canLevel(first, second int, far span) bool {
	runs, others := t[0].focal, t[1].focal
	switch {
	case (first < 0) != (second < 0):
		return false // a height below 0, and one that is not
	case first == 0 || second == 0:
		return slope{first, runs.Hi}.meets(slope{second, others.Hi}, far)
	}
	lo, hi := runs.nearest(others.Lo*first/second), runs.nearest(others.Hi*first/second+1)
	for run := range (span{lo, hi}).all() {
		equal := run * second / first
		for _, other := range [2]int{others.nearest(equal), others.nearest(equal + 1)} {
			if (slope{first, run}).meets(slope{second, other}, far) {
				return true
			}
		}
	}
	return false
}
