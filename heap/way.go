package heap

import (
	"iter"
	"slices"

	"pairworks/api"
)

// stand is how far a way is: the card that is next, and the entries that those before it have.
type stand struct {
	card  int
	taken set
}

// with returns how far a way is if the next card has this entry.
func (s stand) with(entry int) stand {
	return stand{s.card + 1, join(s.taken, setOf(entry))}
}

// free yields the entries that the next card can have.
func (l looked) free(s stand) iter.Seq[int] {
	return numbers(len(l.entries), l.fits[s.card].without(s.taken).has)
}

// counter returns what counts how many ways go on from where one stands.
func (l looked) counter() func(stand) int {
	// Ways that gave the same entries to the same cards go on alike.
	known := map[stand]int{}
	var count func(stand) int
	count = func(s stand) int {
		if s.card == len(l.fits) {
			return 1
		}
		many, isKnown := known[s]
		if isKnown {
			return many
		}
		for entry := range l.free(s) {
			many += count(s.with(entry))
		}
		known[s] = many
		return many
	}
	return count
}

// count returns how many ways there are.
func (l looked) count() int { return l.counter()(stand{}) }

// narrowed returns what is looked at as if each card did fit no more than this.
func (l looked) narrowed(narrow func(card int, fits set) set) looked {
	l.fits = slices.Clone(l.fits)
	for card, fits := range l.fits {
		l.fits[card] = narrow(card, fits)
	}
	return l
}

// share returns how many ways give a card this entry.
func (l looked) share(card, entry int) int {
	return l.narrowed(func(other int, fits set) set {
		if other != card {
			return fits
		}
		return fits.both(setOf(entry))
	}).count()
}

// without returns how many ways give no card this entry.
func (l looked) without(entry int) int {
	return l.narrowed(func(_ int, fits set) set { return fits.without(setOf(entry)) }).count()
}

// first returns the first way: for each card its entry.
func (l looked) first() []int {
	count := l.counter()
	s, way := stand{}, []int{}
	require(count(s) > 0, api.ErrNone)
	for range l.Cards {
		for entry := range l.free(s) {
			if next := s.with(entry); count(next) > 0 {
				s, way = next, append(way, entry)
				break
			}
		}
	}
	return way
}

// sure returns for each card the entry that all ways give it.
func (l looked) sure() []int {
	way, ways := l.first(), l.count()
	for card, entry := range way {
		if l.share(card, entry) < ways {
			way[card] = api.NoEntry
		}
	}
	return way
}

// lost is the entries that no card has, in each way and in some.
type lost struct{ surely, can set }

func (l looked) lost() (told lost) {
	ways := l.count()
	require(ways > 0, api.ErrNone)
	for entry := range l.entries {
		left := l.without(entry)
		if left == ways {
			told.surely = join(told.surely, setOf(entry))
		}
		if left > 0 {
			told.can = join(told.can, setOf(entry))
		}
	}
	return told
}

// tooFew returns the first ones of the fewest cards that fit fewer entries than they are, or none.
func (l looked) tooFew() set {
	for cards := range sets(len(l.Cards)) {
		if l.together(cards).many() < cards.many() {
			return cards
		}
	}
	return 0
}

// together returns the entries that some cards fit, all of them together.
func (l looked) together(cards set) set {
	var fits []set
	for card := range numbers(len(l.fits), cards.has) {
		fits = append(fits, l.fits[card])
	}
	return join(fits...)
}
