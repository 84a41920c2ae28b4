package copy

import (
	"iter"
	"slices"

	"pairworks/api"
)

// cards is a set of cards, by their numbers.
type cards [api.MaxPrints]bool

// below returns the set of the cards with lesser numbers.
func below(many int) (set cards) {
	for card := range many {
		set[card] = true
	}
	return set
}

// without returns a set without a card.
func (s cards) without(card int) cards {
	s[card] = false
	return s
}

// lists yields all lists of all cards, in lexicographic order.
func (l looked) lists() iter.Seq[[]int] {
	return func(yield func([]int) bool) {
		var goOn func(list []int, left cards) bool
		goOn = func(list []int, left cards) bool {
			if left == (cards{}) {
				return yield(list)
			}
			for card, isLeft := range left {
				if isLeft && !goOn(slices.Concat(list, []int{card}), left.without(card)) {
					return false
				}
			}
			return true
		}
		goOn(nil, below(len(l.Cards)))
	}
}

// chain is cards of which each one but the first is a copy of the one before it, and the orders in which they can be so.
type chain struct {
	looked
	orders [][]int
}

// chain returns the chain of all cards, if they have an order.
func (l looked) chain() chain {
	c := chain{looked: l}
orders:
	for order := range l.lists() {
		t := l.apart()
		for place := 1; place < len(order); place++ {
			card, from := order[place], order[place-1]
			if !t.fits(card, from) {
				continue orders
			}
			t = t.copied(card, from)
		}
		c.orders = append(c.orders, order)
	}
	require(len(c.orders) > 0, api.ErrNone)
	return c
}
