package copy_test

import (
	"reflect"
	"slices"
	"testing"

	"pairworks/api"
	"pairworks/copy"
)

func span(lo, hi int) api.Span { return api.Span{Lo: lo, Hi: hi} }

// card returns a card by the spans of its size and of what it shows, and its marks.
func card(size, sizeHi, wide, wideHi int, marks ...int) api.Print {
	c := api.Print{Size: span(size, sizeHi), Wide: span(wide, wideHi)}
	for _, mark := range marks {
		c.Marks |= 1 << mark
	}
	return c
}

// sized returns a card of a size that shows nothing.
func sized(size, sizeHi int, marks ...int) api.Print { return card(size, sizeHi, 0, 0, marks...) }

// prints returns cards of which the copies lose so much.
func prints(less, loss api.Span, cards ...api.Print) api.Prints {
	return api.Prints{Cards: cards, Less: less, Loss: loss}
}

// small returns cards of which the copies lose some size, and nothing of what they show.
func small(less, lessHi int, cards ...api.Print) api.Prints {
	return prints(span(less, lessHi), span(0, 0), cards...)
}

// same returns so many cards that are the same.
func same(many int) api.Prints {
	return prints(span(0, 5), span(0, 10), slices.Repeat([]api.Print{card(100, 110, 500, 530)}, many)...)
}

// pile returns the pile P of the chapter's examples.
func pile() api.Prints {
	return prints(span(3, 5), span(10, 20), card(100, 101, 500, 505), card(96, 97, 485, 490, 0), card(92, 93, 470, 476, 0, 1), card(95, 98, 480, 492, 2))
}

// with returns cards that are changed, with a list of their own.
func with(p api.Prints, change func(*api.Prints)) api.Prints {
	p.Cards = slices.Clone(p.Cards)
	change(&p)
	return p
}

// only returns some cards of prints.
func only(p api.Prints, cards ...int) api.Prints {
	return with(p, func(q *api.Prints) {
		q.Cards = nil
		for _, card := range cards {
			q.Cards = append(q.Cards, p.Cards[card])
		}
	})
}

// outcome is all results of a call.
type outcome struct {
	is     bool
	number [3]int
	list   []int
	lists  [][]int
	e      api.Errno
}

func told(numbers ...int) outcome {
	var o outcome
	for k, n := range numbers {
		o.number[k] = n
	}
	return o
}

func yes(is bool) outcome { return outcome{is: is} }

func failed(e api.Errno) outcome { return outcome{e: e} }

// madeOf returns what Parents tells: the cards of which the card can be a copy.
func madeOf(cards ...int) outcome {
	o := outcome{is: true}
	for _, card := range cards {
		o.number[0] |= 1 << card
	}
	return o
}

// way returns what Fewest tells.
func way(originals int, from ...int) outcome {
	return outcome{list: orNil(from), number: [3]int{originals}}
}

func ordered(orders ...[]int) outcome { return outcome{lists: orders} }

// orNil returns a list, and nil if it is empty: both are the same value.
func orNil[T any](list []T) []T {
	if len(list) == 0 {
		return nil
	}
	return list
}

func fits(p api.Prints, card, from int) outcome {
	is, e := copy.Fits(p, card, from)
	return outcome{is: is, e: e}
}

func ways(p api.Prints) outcome {
	n, e := copy.Ways(p)
	return outcome{number: [3]int{n}, e: e}
}

func parents(p api.Prints, card int) outcome {
	cards, original, e := copy.Parents(p, card)
	return outcome{number: [3]int{cards}, is: original, e: e}
}

func fewest(p api.Prints) outcome {
	list, originals, e := copy.Fewest(p)
	return outcome{list: orNil(list), number: [3]int{originals}, e: e}
}

func from(p api.Prints, card, from int) outcome {
	n, e := copy.From(p, card, from)
	return outcome{number: [3]int{n}, e: e}
}

func orders(p api.Prints) outcome {
	lists, e := copy.Orders(p)
	lists = orNil(lists)
	for k := range lists {
		lists[k] = orNil(lists[k])
	}
	return outcome{lists: lists, e: e}
}

func compare(p api.Prints) outcome {
	a, b, left, e := copy.Compare(p)
	return outcome{number: [3]int{a, b, left}, e: e}
}

func needs(p api.Prints) outcome {
	n, e := copy.Needs(p)
	return outcome{number: [3]int{n}, e: e}
}

// everything returns the results of all functions.
func everything(p api.Prints, a, b int) map[string]outcome {
	return map[string]outcome{
		"Fits": fits(p, a, b), "Ways": ways(p), "Parents": parents(p, a), "Fewest": fewest(p),
		"From": from(p, a, b), "Orders": orders(p), "Compare": compare(p), "Needs": needs(p),
	}
}

func expect[T any](t *testing.T, what string, got, want T) {
	t.Helper()
	if !reflect.DeepEqual(got, want) {
		t.Errorf("%s: got %+v, want %+v", what, got, want)
	}
}

func TestExamples(t *testing.T) {
	p, q := pile(), same(3)
	expect(t, "Fits of 1 and 0", fits(p, 1, 0), yes(true))
	expect(t, "Fits of 2 and 0", fits(p, 2, 0), yes(false))
	expect(t, "Fits of 2 and 3", fits(p, 2, 3), yes(false))
	expect(t, "Ways of P", ways(p), told(8))
	expect(t, "Ways of Q", ways(q), told(16))
	expect(t, "Parents of 2", parents(p, 2), madeOf(1))
	expect(t, "Parents of 0", parents(p, 0), madeOf())
	expect(t, "Fewest of P", fewest(p), way(1, -1, 0, 1, 0))
	expect(t, "From of 2 and 0", from(p, 2, 0), told(2))
	expect(t, "From of 3 and 1", from(p, 3, 1), told(0))
	expect(t, "Orders of P", orders(p), failed(api.ErrNone))
	expect(t, "Orders of the cards 0 1 2 of P", orders(only(p, 0, 1, 2)), ordered([]int{0, 1, 2}))
	expect(t, "Orders of Q", len(orders(q).lists), 6)
	expect(t, "Compare of Q", compare(q), told(0, 1, 3))
	expect(t, "Needs of Q", needs(q), told(3))
}

func TestFits(t *testing.T) {
	one := func(size, wide int) api.Print { return card(size, size, wide, wide) }
	// Copies are smaller by 3 to 5, and show less by 10 to 20.
	lose := func(cards ...api.Print) api.Prints { return prints(span(3, 5), span(10, 20), cards...) }
	for _, x := range []struct {
		what string
		p    api.Prints
		want bool
	}{
		{"as much of both as can be lost", lose(one(95, 480), one(100, 500)), true},
		{"as little", lose(one(97, 490), one(100, 500)), true},
		{"much of one, little of the other one", lose(one(95, 490), one(100, 500)), true},
		{"too little size", lose(one(98, 490), one(100, 500)), false},
		{"too much size", lose(one(94, 490), one(100, 500)), false},
		{"it shows too little", lose(one(96, 479), one(100, 500)), false},
		{"it shows too much", lose(one(96, 491), one(100, 500)), false},
		{"it is larger", lose(one(104, 515), one(100, 500)), false},
		{"it is smaller, but shows more", lose(one(96, 515), one(100, 500)), false},
		{"spans of which the least ones fit alone", lose(card(97, 110, 490, 600), one(100, 500)), true},
		{"spans of which the greatest ones fit alone", lose(card(10, 95, 10, 480), one(100, 500)), true},
		{"a size between them fits alone", lose(card(94, 97, 490, 490), one(100, 500)), true},
		{"spans that are too low", lose(card(10, 94, 490, 490), one(100, 500)), false},
		{"spans that are too high", lose(card(98, 110, 490, 490), one(100, 500)), false},
		{"wide spans of the other one", lose(one(98, 485), card(0, 101, 495, 16384)), true},
		{"wide spans of the other one that are too low", lose(one(98, 485), card(0, 100, 495, 16384)), false},
		{"the same, as nothing need be lost", prints(span(0, 5), span(0, 10), one(100, 500), one(100, 500)), true},
		{"the same, but it must be smaller", prints(span(1, 5), span(0, 10), one(100, 500), one(100, 500)), false},
		{"the same, but it must show less", prints(span(0, 5), span(1, 10), one(100, 500), one(100, 500)), false},
		{"nothing is ever lost", prints(span(0, 0), span(0, 0), one(100, 500), one(100, 500)), true},
		{"nothing is ever lost, but it is smaller", prints(span(0, 0), span(0, 0), one(99, 500), one(100, 500)), false},
		{"all is lost", prints(span(0, 16384), span(16384, 16384), one(0, 0), one(16384, 16384)), true},
		{"the same marks", small(0, 0, sized(5, 5, 0, 9), sized(5, 5, 0, 9)), true},
		{"a mark more", small(0, 0, sized(5, 5, 0, 4, 9), sized(5, 5, 0, 9)), true},
		{"a mark less", small(0, 0, sized(5, 5, 9), sized(5, 5, 0, 9)), false},
		{"another mark", small(0, 0, sized(5, 5, 1), sized(5, 5, 2)), false},
		{"all marks", small(0, 0, sized(5, 5, 0, 1, 2, 3, 4, 5, 6, 7, 8, 9), sized(5, 5)), true},
		{"all marks, the other way round", small(0, 0, sized(5, 5), sized(5, 5, 0, 1, 2, 3, 4, 5, 6, 7, 8, 9)), false},
		{"another card that is a copy of neither", lose(one(95, 480), one(100, 500), one(1, 1)), true},
		{"over another card", lose(one(92, 480), one(100, 500), one(96, 490)), false},
	} {
		expect(t, x.what, fits(x.p, 0, 1), yes(x.want))
	}
}

func TestWays(t *testing.T) {
	for _, x := range []struct {
		what string
		p    api.Prints
		want int
	}{
		{"no card", same(0), 1},
		{"one card", same(1), 1},
		{"two cards", same(2), 3},
		{"four cards", same(4), 125},
		{"five cards", same(5), 1296},
		{"five cards that have nothing to do with each other", small(1, 1, sized(1, 1), sized(3, 3), sized(5, 5), sized(7, 7), sized(9, 9)), 1},
		{"a chain", small(1, 1, sized(1, 1), sized(2, 2), sized(3, 3), sized(4, 4), sized(5, 5)), 16},
		{"each of all that are larger", small(1, 9, sized(1, 1), sized(2, 2), sized(3, 3), sized(4, 4), sized(5, 5)), 120},
		{"copies of one card", small(1, 1, sized(2, 2), sized(1, 1), sized(1, 1), sized(1, 1), sized(1, 1)), 16},
		{"either of two, but not both, is a copy of the third one", small(1, 2, sized(10, 20), sized(9, 9), sized(18, 18, 0)), 3},
		{"each of two, and both, are copies of the third one", small(1, 2, sized(10, 20), sized(9, 9), sized(10, 10)), 6},
		{"a card between two cannot be all that it can be of each", small(2, 2, sized(8, 8), sized(5, 6), sized(3, 3)), 3},
		{"a card between two can be", small(2, 2, sized(8, 8), sized(5, 6), sized(4, 4)), 4},
		{"four in a row just fit in part", small(1, 1, sized(10, 10), sized(8, 9), sized(7, 8), sized(6, 6)), 7},
		{"four in a row do not, though each three do", small(2, 3, sized(10, 10), sized(6, 8), sized(3, 6), sized(0, 0)), 7},
		{"two that lose nothing", small(0, 0, sized(3, 4), sized(4, 5)), 3},
		{"three that lose nothing, but are never all the same", small(0, 0, sized(3, 4), sized(4, 5), sized(5, 6)), 5},
	} {
		expect(t, x.what, ways(x.p), told(x.want))
	}
}

func TestParents(t *testing.T) {
	chain := small(1, 2, sized(1, 1), sized(2, 2), sized(3, 3), sized(4, 4), sized(5, 5))
	expect(t, "one card", parents(same(1), 0), madeOf())
	expect(t, "the least of a chain", parents(chain, 0), madeOf(1, 2))
	expect(t, "the last but one", parents(chain, 3), madeOf(4))
	expect(t, "the greatest", parents(chain, 4), madeOf())
	for card := range 5 {
		others := slices.Delete([]int{0, 1, 2, 3, 4}, card, card+1)
		expect(t, "the same cards", parents(same(5), card), madeOf(others...))
	}
	expect(t, "one of two that cannot be both", parents(small(1, 2, sized(10, 20), sized(9, 9), sized(18, 18, 0)), 2), madeOf(0))
	expect(t, "the card 3 of P", parents(pile(), 3), madeOf(0))
}

func TestFewest(t *testing.T) {
	for _, x := range []struct {
		what string
		p    api.Prints
		want outcome
	}{
		{"no card", same(0), way(0)},
		{"one card", same(1), way(1, -1)},
		{"five cards that are the same", same(5), way(1, -1, 0, 0, 0, 0)},
		{"no copies", small(1, 1, sized(1, 1), sized(3, 3), sized(5, 5)), way(3, -1, -1, -1)},
		{"a chain, turned", small(1, 1, sized(1, 1), sized(2, 2), sized(3, 3)), way(1, 1, 2, -1)},
		{"the first card that fits", small(1, 2, sized(1, 1), sized(2, 2), sized(3, 3)), way(1, 1, 2, -1)},
		{"a later one that fits", small(2, 3, sized(1, 1), sized(2, 2), sized(4, 4)), way(1, 2, 2, -1)},
		{"either of two: the later one", small(1, 2, sized(10, 20), sized(9, 9), sized(18, 18, 0)), way(2, -1, -1, 0)},
		{"an original first, as there must be one of two", small(1, 1, sized(3, 3, 0), sized(3, 3, 1), sized(2, 2, 0, 1)), way(2, -1, -1, 0)},
		{"two pairs", small(1, 1, sized(6, 6), sized(9, 9), sized(10, 10), sized(5, 5)), way(2, -1, 2, -1, 0)},
		{"the fewest, not the first", small(1, 1, sized(5, 5), sized(5, 6), sized(4, 4)), way(1, 1, -1, 0)},
		{"no card between two cards", small(2, 2, sized(8, 8), sized(5, 6), sized(3, 3)), way(2, -1, -1, 1)},
	} {
		expect(t, x.what, fewest(x.p), x.want)
	}
}

func TestFrom(t *testing.T) {
	never, perhaps, always := told(api.CopyNever), told(api.CopyPerhaps), told(api.CopyAlways)
	fork := small(1, 1, sized(5, 5), sized(4, 4), sized(4, 4), sized(3, 3))
	for _, x := range []struct {
		what    string
		p       api.Prints
		a, b    int
		forward outcome
		back    outcome
	}{
		{"two that are the same", same(2), 0, 1, perhaps, perhaps},
		{"five that are the same", same(5), 4, 2, perhaps, perhaps},
		{"nothing to do with each other", small(1, 1, sized(1, 1), sized(3, 3)), 0, 1, never, never},
		{"a copy", small(1, 1, sized(1, 1), sized(2, 2)), 0, 1, always, never},
		{"a copy of a copy", small(1, 1, sized(1, 1), sized(2, 2), sized(3, 3)), 0, 2, always, never},
		{"a copy of a copy of a copy", small(1, 1, sized(4, 4), sized(3, 3), sized(1, 1), sized(2, 2)), 2, 0, always, never},
		{"the first of a fork", fork, 1, 0, always, never},
		{"the last of a fork, and the first one", fork, 3, 0, always, never},
		{"the last of a fork, and one between them", fork, 3, 1, perhaps, never},
		{"the last of a fork, and the other one between them", fork, 3, 2, perhaps, never},
		{"both sides of a fork", fork, 2, 1, never, never},
		{"one of two that are not both copies", small(1, 2, sized(10, 20), sized(9, 9), sized(18, 18, 0)), 1, 0, perhaps, never},
		{"the ways with more originals do not count", small(1, 1, sized(5, 5), sized(5, 6), sized(4, 4)), 2, 0, always, never},
		{"it comes from another one in a way with more originals alone", small(1, 2, sized(10, 20), sized(9, 9), sized(18, 18, 0), sized(18, 18, 1)), 1, 0, never, never},
		{"it comes from another one in the ways with the fewest", small(1, 2, sized(10, 20), sized(9, 9), sized(18, 18, 0), sized(18, 18, 1)), 3, 0, always, never},
	} {
		expect(t, x.what, from(x.p, x.a, x.b), x.forward)
		expect(t, x.what+", turned", from(x.p, x.b, x.a), x.back)
	}
}

func TestOrders(t *testing.T) {
	none := failed(api.ErrNone)
	for _, x := range []struct {
		what string
		p    api.Prints
		want outcome
	}{
		{"no card", same(0), ordered(nil)},
		{"one card", same(1), ordered([]int{0})},
		{"two cards", same(2), ordered([]int{0, 1}, []int{1, 0})},
		{"three cards", same(3), ordered([]int{0, 1, 2}, []int{0, 2, 1}, []int{1, 0, 2}, []int{1, 2, 0}, []int{2, 0, 1}, []int{2, 1, 0})},
		{"one order", small(1, 1, sized(4, 4), sized(1, 1), sized(3, 3), sized(5, 5), sized(2, 2)), ordered([]int{3, 0, 2, 4, 1})},
		{"a card that does not fit", small(1, 1, sized(4, 4), sized(1, 1), sized(3, 3), sized(5, 5)), none},
		{"two copies of one card", small(1, 1, sized(5, 5), sized(4, 4), sized(4, 4)), none},
		{"two that can be turned", small(0, 1, sized(5, 5), sized(4, 4), sized(4, 4)), ordered([]int{0, 1, 2}, []int{0, 2, 1})},
		{"two fit, but not three", small(2, 2, sized(8, 8), sized(5, 6), sized(3, 3)), none},
		{"three fit", small(2, 2, sized(8, 8), sized(5, 6), sized(4, 4)), ordered([]int{0, 1, 2})},
		{"marks tell the order", small(0, 9, sized(0, 9, 1), sized(0, 9, 1, 2), sized(0, 9)), ordered([]int{2, 0, 1})},
		{"marks contradict each other", small(0, 9, sized(0, 9, 1), sized(0, 9, 2), sized(0, 9)), none},
		{"what they show tells the order", prints(span(0, 9), span(1, 9), card(0, 9, 5, 5), card(0, 9, 6, 6)), ordered([]int{1, 0})},
	} {
		expect(t, x.what, orders(x.p), x.want)
	}
	all := orders(same(5)).lists
	if len(all) != 120 || !slices.IsSortedFunc(all, slices.Compare[[]int]) {
		t.Errorf("the orders of five cards are %v", all)
	}
}

func TestCompareAndNeeds(t *testing.T) {
	none := failed(api.ErrNone)
	first := sized(0, 9)
	for _, x := range []struct {
		what    string
		p       api.Prints
		compare outcome
		needs   outcome
	}{
		{"no card", same(0), none, told(0)},
		{"one card", same(1), none, told(0)},
		{"two cards", same(2), told(0, 1, 1), told(1)},
		{"four cards", same(4), told(0, 1, 12), told(5)},
		{"five cards", same(5), told(0, 1, 60), told(7)},
		{"no order", small(1, 1, sized(5, 5), sized(4, 4), sized(4, 4)), none, none},
		{"one order", small(1, 1, sized(5, 5), sized(4, 4), sized(3, 3)), none, told(0)},
		{"the last two", small(0, 1, sized(5, 5), sized(4, 4), sized(4, 4)), told(1, 2, 1), told(1)},
		{"the first and the last one", small(0, 9, sized(0, 9), first, sized(0, 9, 1), sized(0, 9, 1)), told(0, 1, 2), told(2)},
		{"a first card", small(0, 9, sized(0, 9, 1), sized(0, 9, 1), first, sized(0, 9, 1)), told(0, 1, 3), told(3)},
		{"the best cards are not the first ones", small(0, 9, first, sized(0, 9, 2), sized(0, 9, 2), sized(0, 9, 2), sized(0, 9, 2)), told(1, 2, 12), told(5)},
	} {
		expect(t, "Compare: "+x.what, compare(x.p), x.compare)
		expect(t, "Needs: "+x.what, needs(x.p), x.needs)
	}
}

// notValid returns prints of which one thing each is not valid.
func notValid() map[string]api.Prints {
	change := func(change func(*api.Prints)) api.Prints { return with(pile(), change) }
	return map[string]api.Prints{
		"six cards":            same(6),
		"many cards":           same(100),
		"a size below 0":       change(func(p *api.Prints) { p.Cards[0].Size.Lo = -1 }),
		"a size too great":     change(func(p *api.Prints) { p.Cards[3].Size.Hi = api.MaxSize + 1 }),
		"a size of none":       change(func(p *api.Prints) { p.Cards[1].Size = span(97, 96) }),
		"a width below 0":      change(func(p *api.Prints) { p.Cards[2].Wide = span(-5, -3) }),
		"a width too great":    change(func(p *api.Prints) { p.Cards[2].Wide = span(api.MaxSize+1, api.MaxSize+1) }),
		"a width of none":      change(func(p *api.Prints) { p.Cards[3].Wide = span(1, 0) }),
		"a mark too many":      change(func(p *api.Prints) { p.Cards[1].Marks = 1 << api.MaxDust }),
		"marks below 0":        change(func(p *api.Prints) { p.Cards[3].Marks = -1 }),
		"it is larger":         change(func(p *api.Prints) { p.Less.Lo = -1 }),
		"it is too much less":  change(func(p *api.Prints) { p.Less.Hi = api.MaxSize + 1 }),
		"less of none":         change(func(p *api.Prints) { p.Less = span(5, 3) }),
		"it shows more":        change(func(p *api.Prints) { p.Loss = span(-2, -1) }),
		"it shows too little":  change(func(p *api.Prints) { p.Loss.Hi = api.MaxSize + 1 }),
		"a loss of none":       change(func(p *api.Prints) { p.Loss = span(20, 10) }),
		"no cards, but a loss": change(func(p *api.Prints) { p.Cards, p.Loss = nil, span(1, 0) }),
	}
}

// ErrArg comes before ErrRange, and that before ErrNone.
func TestPrintsThatAreNotValid(t *testing.T) {
	for what, p := range notValid() {
		for _, cards := range [][2]int{{0, 1}, {0, 0}, {-1, 9}} {
			for name, got := range everything(p, cards[0], cards[1]) {
				expect(t, name+" of "+what, got, failed(api.ErrArg))
			}
		}
	}
}

func TestCardsThatAreNone(t *testing.T) {
	for _, many := range []int{0, 1, 4, 5} {
		p := same(many)
		for _, none := range []int{-1, many, 6, -1 << 63, 1<<63 - 1} {
			expect(t, "Fits", fits(p, none, 0), failed(api.ErrRange))
			expect(t, "Fits", fits(p, 0, none), failed(api.ErrRange))
			expect(t, "From", from(p, none, 0), failed(api.ErrRange))
			expect(t, "From", from(p, 0, none), failed(api.ErrRange))
			expect(t, "Parents", parents(p, none), failed(api.ErrRange))
		}
		for card := range many {
			expect(t, "Fits of a card and itself", fits(p, card, card), failed(api.ErrRange))
			expect(t, "From of a card and itself", from(p, card, card), failed(api.ErrRange))
			expect(t, "the error of Parents", parents(p, card).e, api.OK)
		}
	}
}

func TestLimits(t *testing.T) {
	most := span(0, api.MaxSize)
	wide := prints(most, most, slices.Repeat([]api.Print{{Size: most, Wide: most, Marks: 1<<api.MaxDust - 1}}, api.MaxPrints)...)
	expect(t, "Ways of the widest cards", ways(wide), told(1296))
	expect(t, "Needs of the widest cards", needs(wide), told(7))
	ends := prints(span(api.MaxSize, api.MaxSize), span(api.MaxSize, api.MaxSize), api.Print{}, card(api.MaxSize, api.MaxSize, api.MaxSize, api.MaxSize))
	expect(t, "Orders of the least and the greatest card", orders(ends), ordered([]int{1, 0}))
}
