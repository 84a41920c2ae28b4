package copy

import (
	"math"
	"slices"

	"pairworks/api"
)

// maxOrders is how many orders MaxPrints cards have at most.
const maxOrders = 1 * 2 * 3 * 4 * 5

// some is which of the orders of a chain are left, by their numbers.
type some [maxOrders]bool

// many returns how many orders are left.
func (s some) many() (many int) {
	for _, isLeft := range s {
		if isLeft {
			many++
		}
	}
	return many
}

// all returns that all orders of a chain are left.
func (c chain) all() (all some) {
	for number := range c.orders {
		all[number] = true
	}
	return all
}

// compared returns which orders are left, of some, when a comparison has told yes, and which when it has told no.
func (c chain) compared(left some, comparison func(order []int) bool) (yes, no some) {
	for number, order := range c.orders {
		switch {
		case !left[number]:
		case comparison(order):
			yes[number] = true
		default:
			no[number] = true
		}
	}
	return yes, no
}

// pair is two cards, the lesser number first.
type pair struct{ one, other int }

// isInTurn returns whether the first card of a pair comes first in an order.
func (p pair) isInTurn(order []int) bool {
	return slices.Index(order, p.one) < slices.Index(order, p.other)
}

// pairs returns all pairs of cards, in lexicographic order.
func (c chain) pairs() (pairs []pair) {
	for one := range c.Cards {
		for other := one + 1; other < len(c.Cards); other++ {
			pairs = append(pairs, pair{one, other})
		}
	}
	return pairs
}

// split is two cards, and how many orders are left at most when they have been compared.
type split struct {
	pair pair
	left int
}

// best returns the two cards with which the fewest orders are left.
func (c chain) best() split {
	require(len(c.orders) > 1, api.ErrNone)
	var splits []split
	for _, p := range c.pairs() {
		yes, no := c.compared(c.all(), p.isInTurn)
		splits = append(splits, split{p, max(yes.many(), no.many())})
	}
	return least(func(s split) int { return s.left }, splits[0], splits[1:]...)
}

// needs returns with how many comparisons the order is known, whichever it is.
func (c chain) needs() int {
	known := map[some]int{}
	var needs func(left some) int
	needs = func(left some) int {
		if left.many() == 1 {
			return 0
		}
		if n, found := known[left]; found {
			return n
		}
		n := math.MaxInt
		for _, p := range c.pairs() {
			yes, no := c.compared(left, p.isInTurn)
			if yes != left && no != left { // else it tells nothing new
				n = min(n, 1+max(needs(yes), needs(no)))
			}
		}
		known[left] = n
		return n
	}
	return needs(c.all())
}
