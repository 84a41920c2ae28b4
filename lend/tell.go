package lend

import "pairworks/api"

// can returns whether there is a truth that does what it must.
func (l looked) can(m must) bool { return len(l.upTo(len(l.Loans), m)) > 0 }

// ended returns the states at the end of all truths.
func (l looked) ended() states {
	all := l.upTo(len(l.Loans), anything{})
	require(len(all) > 0, api.ErrNone)
	return all
}

// check returns the first loan up to which there is no truth.
func (l looked) check() int {
	for number := range l.Loans {
		if len(l.upTo(number+1, anything{})) == 0 {
			return number
		}
	}
	panic(api.ErrNone)
}

// found is what is found in some state: numbers, and none.
type found struct {
	some set
	none bool
}

// find returns what is found in the states at the end.
func (l looked) find(of func(state) int) (all found) {
	for s := range l.ended() {
		if n := of(s); n == none {
			all.none = true
		} else {
			all.some = join(all.some, only(n))
		}
	}
	return all
}

// where returns the slots in which a card can be.
func (l looked) where(card int) found {
	return l.find(func(s state) int { return s[card] })
}

// inside returns the cards that can be in a slot.
func (l looked) inside(slot int) found {
	return l.find(func(s state) int { return s.cardIn(slot) })
}

// wrongs returns how many cards were put back wrong at least.
func (l looked) wrongs() int {
	l.Wrong = api.MaxLoans // each loan can be wrong
	var wrongs ends[int]
	for _, fewest := range l.ended() {
		wrongs.take(fewest)
	}
	return wrongs.least
}

// blamed is those who are to blame in each truth, and in some truth.
type blamed struct{ surely, can set }

// blame returns the loans that put a card back wrong.
func (l looked) blame() blamed {
	require(l.can(anything{}), api.ErrNone)
	return blamed{
		surely: those(len(l.Loans), func(number int) bool { return !l.can(rightAt(number)) }),
		can:    those(len(l.Loans), func(number int) bool { return l.can(wrongAt(number)) }),
	}
}

// people returns the persons who put a card back wrong.
func (l looked) people() blamed {
	loans := l.blame().can
	var can set
	for number, loan := range l.Loans {
		if loans.has(number) {
			can = join(can, only(loan.Person))
		}
	}
	return blamed{
		surely: those(api.MaxPeople, func(person int) bool { return !l.can(rightBy(person)) }),
		can:    can,
	}
}

// misplaced returns how many cards are in a slot that is not theirs.
func (l looked) misplaced() api.Span {
	var all ends[int]
	for s := range l.ended() {
		many := 0
		for card, home := range l.Homes {
			if s[card] != home && s[card] != none {
				many++
			}
		}
		all.take(many)
	}
	return api.Span{Lo: all.least, Hi: all.greatest}
}

// glance is a look into a slot, and how many states it leaves at most.
type glance struct{ slot, left int }

// next returns the look that leaves the fewest states.
func (l looked) next() glance {
	all := l.ended()
	require(len(all) > 1, api.ErrNone)
	left := func(slot int) int {
		seen := map[int]int{}
		for s := range all {
			seen[s.cardIn(slot)]++
		}
		var many ends[int]
		for _, states := range seen {
			many.take(states)
		}
		return many.greatest
	}
	best := glance{left: left(0)}
	for slot := range l.Slots {
		if many := left(slot); many < best.left {
			best = glance{slot, many}
		}
	}
	return best
}
