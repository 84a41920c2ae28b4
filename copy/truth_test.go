package copy_test

import (
	"math/bits"
	"math/rand/v2"
	"slices"
	"testing"

	"pairworks/api"
)

// copies is a set of copies: which card is, or can be, a copy of which one.
type copies [api.MaxPrints][api.MaxPrints]bool

// contains returns whether one can copy as each card that is no original in a way was copied.
func (c copies) contains(way []int) bool {
	for card, from := range way {
		if from != api.NoCard && !c[card][from] {
			return false
		}
	}
	return true
}

// numbers calls a function with each choice of one number of each of some spans.
func numbers(spans []api.Span, chosen []int, f func([]int)) {
	if len(chosen) == len(spans) {
		f(chosen)
		return
	}
	for n := spans[len(chosen)].Lo; n <= spans[len(chosen)].Hi; n++ {
		numbers(spans, append(slices.Clone(chosen), n), f)
	}
}

// possible returns for each choice of one number of each span which cards can be copies of which, without double ones.
func possible(spans []api.Span, by api.Span) map[copies]bool {
	found := map[copies]bool{}
	numbers(spans, nil, func(n []int) {
		var c copies
		for card := range n {
			for from := range n {
				lost := n[from] - n[card]
				c[card][from] = card != from && by.Lo <= lost && lost <= by.Hi
			}
		}
		found[c] = true
	})
	return found
}

// isRound returns whether some card comes from itself.
func isRound(way []int) bool {
	for card := range way {
		at := card
		for range way {
			if at != api.NoCard {
				at = way[at]
			}
		}
		if at != api.NoCard {
			return true
		}
	}
	return false
}

// allWays returns all ways, in lexicographic order, found by a search through all truths.
func allWays(p api.Prints) [][]int {
	var sizes, wides, from []api.Span
	var marks copies
	for a, card := range p.Cards {
		sizes, wides = append(sizes, card.Size), append(wides, card.Wide)
		from = append(from, span(api.NoCard, len(p.Cards)-1))
		for b, other := range p.Cards {
			marks[a][b] = card.Marks|other.Marks == card.Marks
		}
	}
	less, loss := possible(sizes, p.Less), possible(wides, p.Loss)
	some := func(c map[copies]bool, way []int) bool {
		for one := range c {
			if one.contains(way) {
				return true
			}
		}
		return false
	}
	var found [][]int
	numbers(from, nil, func(way []int) {
		if marks.contains(way) && !isRound(way) && some(less, way) && some(loss, way) {
			found = append(found, way)
		}
	})
	return found
}

// originalsOf returns how many originals a way has.
func originalsOf(way []int) (many int) {
	for _, from := range way {
		if from == api.NoCard {
			many++
		}
	}
	return many
}

// comesFrom returns whether in a way a card comes from another one.
func comesFrom(way []int, card, from int) bool {
	parent := way[card]
	return parent == from || parent != api.NoCard && comesFrom(way, parent, from)
}

// orderOf returns the order of a way that is one chain, or nil.
func orderOf(way []int) []int {
	order := []int{slices.Index(way, api.NoCard)}
	for len(order) < len(way) {
		next := slices.Index(way, order[len(order)-1])
		if next < 0 {
			return nil
		}
		order = append(order, next)
	}
	return order
}

// allOrders returns the orders of ways, in lexicographic order.
func allOrders(ways [][]int) [][]int {
	if len(ways[0]) == 0 {
		return [][]int{nil}
	}
	var found [][]int
	for _, way := range ways {
		if order := orderOf(way); order != nil {
			found = append(found, order)
		}
	}
	slices.SortFunc(found, slices.Compare[[]int])
	return found
}

// having returns the orders that have one card before another one.
func having(orders [][]int, first, second int) (found [][]int) {
	for _, order := range orders {
		if slices.Index(order, first) < slices.Index(order, second) {
			found = append(found, order)
		}
	}
	return found
}

// enough returns whether so many comparisons are enough to know which of the orders it is.
func enough(orders [][]int, comparisons int) bool {
	if len(orders) <= 1 {
		return true
	}
	if len(orders) > 1<<comparisons {
		return false
	}
	for a := range orders[0] {
		for b := range a {
			one, other := having(orders, a, b), having(orders, b, a)
			if len(one) > 0 && len(other) > 0 && enough(one, comparisons-1) && enough(other, comparisons-1) {
				return true
			}
		}
	}
	return false
}

// bestPair returns what Compare has to tell of several orders.
func bestPair(orders [][]int) outcome {
	best := told(0, 0, len(orders)+1)
	for a := range orders[0] {
		for b := a + 1; b < len(orders[0]); b++ {
			if left := max(len(having(orders, a, b)), len(having(orders, b, a))); left < best.number[2] {
				best = told(a, b, left)
			}
		}
	}
	return best
}

// anySpan returns a span of so many numbers at most that contains a number.
func anySpan(r *rand.Rand, n, wide int) api.Span {
	lo := n - r.IntN(wide)
	return span(lo, n+r.IntN(wide-n+lo))
}

// loses returns a number that is less by some number of a span.
func loses(r *rand.Rand, n int, by api.Span) int { return n - by.Lo - r.IntN(by.Hi-by.Lo+1) }

// anyPrints returns cards that were copied in some way, and the card of which each was copied.
func anyPrints(r *rand.Rand) (api.Prints, []int) {
	less, loss := r.IntN(4)*r.IntN(2), r.IntN(4)*r.IntN(2)
	p := prints(span(less, less+r.IntN(3)), span(loss, loss+r.IntN(3)))
	many, chain, scratched := r.IntN(api.MaxPrints+1), r.IntN(2) == 0, r.IntN(2) == 0
	var sizes, wides, marks, way []int
	wide := 1 + r.IntN(4)
	for card := range many {
		from, size, shows, has := api.NoCard, 25+r.IntN(3), 25+r.IntN(3), 0
		if card > 0 && (chain || r.IntN(4) > 0) {
			from = card - 1
			if !chain {
				from = r.IntN(card)
			}
			size, shows, has = loses(r, sizes[from], p.Less), loses(r, wides[from], p.Loss), marks[from]
		}
		if scratched && r.IntN(3) == 0 {
			has |= 1 << r.IntN(5)
		}
		sizes, wides, marks, way = append(sizes, size), append(wides, shows), append(marks, has), append(way, from)
		p.Cards = append(p.Cards, api.Print{Size: anySpan(r, size, wide), Wide: anySpan(r, shows, wide), Marks: has})
	}
	return numbered(p, way, r.Perm(many))
}

// numbered returns cards, and a way, of which the card k has the number number[k].
func numbered(p api.Prints, way, number []int) (api.Prints, []int) {
	other := with(p, func(*api.Prints) {})
	from := slices.Clone(way)
	for card, parent := range way {
		other.Cards[number[card]] = p.Cards[card]
		from[number[card]] = api.NoCard
		if parent != api.NoCard {
			from[number[card]] = number[parent]
		}
	}
	return other, from
}

// kinds counts cases by their kind.
type kinds map[string]int

func (n kinds) need(t *testing.T, many int, kinds ...string) {
	t.Helper()
	for _, kind := range kinds {
		if n[kind] < many {
			t.Errorf("just %d cases: %s", n[kind], kind)
		}
	}
}

// What is told is what a search through all truths finds.
func TestAllTruths(t *testing.T) {
	r := rand.New(rand.NewPCG(151, 152))
	n := kinds{}
	for range 2500 {
		p, _ := anyPrints(r)
		found := allWays(p)
		expect(t, "Ways", ways(p), told(len(found)))
		cardsAreTold(t, n, p, found)
		few := slices.MinFunc(found, func(a, b []int) int { return originalsOf(a) - originalsOf(b) })
		expect(t, "Fewest", fewest(p), way(originalsOf(few), few...))
		ordersAreTold(t, n, p, allOrders(found))
		if t.Failed() {
			t.Fatalf("of %+v", p)
		}
		if len(p.Cards) == api.MaxPrints {
			n["five cards"]++
		}
	}
	n.need(t, 100, "never", "perhaps", "always", "five cards", "a parent", "several parents", "a parent with more originals alone", "no order", "one order", "several orders")
	n.need(t, 50, "five needed")
}

// cardsAreTold checks what is told of two cards.
func cardsAreTold(t *testing.T, n kinds, p api.Prints, found [][]int) {
	fewest := len(p.Cards)
	for _, way := range found {
		fewest = min(fewest, originalsOf(way))
	}
	for a := range p.Cards {
		var made, few outcome
		for _, way := range found {
			if way[a] == api.NoCard {
				made.is = true
				continue
			}
			made.number[0] |= 1 << way[a]
			if originalsOf(way) == fewest {
				few.number[0] |= 1 << way[a]
			}
		}
		expect(t, "Parents", parents(p, a), made)
		n.countParents(made.number[0], few.number[0])
		for b := range p.Cards {
			if a == b {
				continue
			}
			both := allWays(only(p, a, b))
			expect(t, "Fits", fits(p, a, b), yes(slices.ContainsFunc(both, func(way []int) bool { return way[0] == 1 })))
			expect(t, "From", from(p, a, b), comesOf(n, found, fewest, a, b))
		}
	}
}

// countParents counts what kind of parents a card has, of all ways, and of those with the fewest originals.
func (n kinds) countParents(all, few int) {
	switch bits.OnesCount(uint(all)) {
	case 0:
	case 1:
		n["a parent"]++
	default:
		n["several parents"]++
	}
	if all&^few != 0 {
		n["a parent with more originals alone"]++
	}
}

// comesOf returns what From has to tell of ways.
func comesOf(n kinds, found [][]int, fewest, card, from int) outcome {
	comes, not := false, false
	for _, way := range found {
		if originalsOf(way) == fewest {
			comes, not = comes || comesFrom(way, card, from), not || !comesFrom(way, card, from)
		}
	}
	switch {
	case !comes:
		n["never"]++
		return told(api.CopyNever)
	case not:
		n["perhaps"]++
		return told(api.CopyPerhaps)
	}
	n["always"]++
	return told(api.CopyAlways)
}

// ordersAreTold checks what is told of orders.
func ordersAreTold(t *testing.T, n kinds, p api.Prints, found [][]int) {
	none := failed(api.ErrNone)
	switch len(found) {
	case 0:
		n["no order"]++
		expect(t, "Orders, of none", orders(p), none)
		expect(t, "Compare, of no order", compare(p), none)
		expect(t, "Needs, of no order", needs(p), none)
		return
	case 1:
		n["one order"]++
		expect(t, "Compare, of one order", compare(p), none)
	default:
		n["several orders"]++
		expect(t, "Compare", compare(p), bestPair(found))
	}
	expect(t, "Orders", orders(p), ordered(found...))
	many := needs(p)
	if many.e != api.OK || !enough(found, many.number[0]) || many.number[0] > 0 && enough(found, many.number[0]-1) {
		t.Errorf("Needs: %+v for the orders %v", many, found)
	}
	if many.number[0] >= 5 {
		n["five needed"]++
	}
}

// In a row of cards each two neighbours can fit, and all of them not.
func TestNeighboursThatFitAndAllThatDoNot(t *testing.T) {
	r := rand.New(rand.NewPCG(153, 154))
	n := kinds{}
	for range 20000 {
		p, _ := anyPrints(r)
		fit := true
		for card := 1; card < len(p.Cards); card++ {
			fit = fit && fits(p, card, card-1).is
		}
		row := make([]int, len(p.Cards))
		for card := range row {
			row[card] = card
		}
		is := slices.ContainsFunc(orders(p).lists, func(order []int) bool { return slices.Equal(order, row) })
		switch {
		case is && !fit:
			t.Fatalf("the cards of %+v are told in their order, but not all neighbours fit", p)
		case is:
			n["all fit"]++
		case fit:
			n["just neighbours fit"]++
		default:
			n["some do not fit"]++
		}
	}
	n.need(t, 50, "all fit", "just neighbours fit", "some do not fit")
}
