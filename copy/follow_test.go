package copy_test

import (
	"math"
	"math/rand/v2"
	"slices"
	"testing"

	"pairworks/api"
	"pairworks/copy"
)

// However the cards were truly copied, this is among the ways.
func TestTrueCopiesAreAmongTheWays(t *testing.T) {
	r := rand.New(rand.NewPCG(155, 156))
	n := kinds{}
	for range 2000 {
		p, truth := anyPrints(r)
		if ways(p).number[0] < 1 || fewest(p).number[0] > originalsOf(truth) {
			t.Fatalf("of %+v are told %+v and %+v, but the truth is %v", p, ways(p), fewest(p), truth)
		}
		for card, parent := range truth {
			made := parents(p, card)
			switch {
			case !made.is:
				t.Fatalf("the card %d of %+v can be an original", card, p)
			case parent == api.NoCard:
				n["original"]++
				continue
			case made.number[0]&(1<<parent) == 0 || !fits(p, card, parent).is:
				t.Fatalf("the card %d of %+v was copied from %d, but %+v is told", card, p, parent, made)
			}
			n["copy"]++
		}
		if originalsOf(truth) == fewest(p).number[0] {
			n["with the fewest originals"]++
			trueCopiesAreTold(t, p, truth)
		}
		if len(truth) == 0 || originalsOf(truth) > 1 {
			continue
		}
		if order := orderOf(truth); order != nil {
			n["chain"]++
			if !slices.ContainsFunc(orders(p).lists, func(list []int) bool { return slices.Equal(list, order) }) {
				t.Fatalf("%v is the order of %+v, but %+v is told", order, p, orders(p))
			}
		}
	}
	n.need(t, 500, "original", "copy", "chain", "with the fewest originals")
}

// trueCopiesAreTold checks that the truth, which has as few originals as can be, is nowhere denied.
func trueCopiesAreTold(t *testing.T, p api.Prints, truth []int) {
	for a := range truth {
		for b := range truth {
			if a == b {
				continue
			}
			if o := from(p, a, b).number[0]; o == api.CopyNever && comesFrom(truth, a, b) || o == api.CopyAlways && !comesFrom(truth, a, b) {
				t.Fatalf("of the cards %d and %d of %+v is told %d, but the truth is %v", a, b, p, o, truth)
			}
		}
	}
}

// areFewer returns whether some orders are all among others.
func areFewer(some, all [][]int) bool {
	for _, order := range some {
		if !slices.ContainsFunc(all, func(other []int) bool { return slices.Equal(order, other) }) {
			return false
		}
	}
	return true
}

// narrowed returns a span within a span.
func narrowed(r *rand.Rand, s api.Span) api.Span {
	if r.IntN(3) > 0 {
		return s
	}
	lo := s.Lo + r.IntN(s.Hi-s.Lo+1)
	return span(lo, lo+r.IntN(s.Hi-lo+1))
}

// narrower returns cards of which more is known.
func narrower(r *rand.Rand, p api.Prints) api.Prints {
	return with(p, func(p *api.Prints) {
		p.Less, p.Loss = narrowed(r, p.Less), narrowed(r, p.Loss)
		for k, card := range p.Cards {
			p.Cards[k].Size, p.Cards[k].Wide = narrowed(r, card.Size), narrowed(r, card.Wide)
		}
	})
}

// marked returns cards of which one has a mark more that it has alone.
func marked(r *rand.Rand, p api.Prints) api.Prints {
	return with(p, func(p *api.Prints) {
		if len(p.Cards) > 0 {
			p.Cards[r.IntN(len(p.Cards))].Marks |= 1 << (api.MaxDust - 1)
		}
	})
}

// With a mark more that one card alone has, and with narrower spans, there are no more ways and no more orders.
func TestMoreIsKnown(t *testing.T) {
	r := rand.New(rand.NewPCG(157, 158))
	n := kinds{}
	for range 1500 {
		p, _ := anyPrints(r)
		for name, q := range map[string]api.Prints{"marked": marked(r, p), "narrower": narrower(r, p)} {
			before, after := ways(p).number[0], ways(q).number[0]
			if after < 1 || after > before || fewest(q).number[0] < fewest(p).number[0] || !areFewer(orders(q).lists, orders(p).lists) {
				t.Fatalf("%+v has %d ways, and %+v has %d", p, before, q, after)
			}
			for card := range p.Cards {
				if parents(q, card).number[0]&^parents(p, card).number[0] != 0 {
					t.Fatalf("the card %d of %+v has more parents than of %+v", card, q, p)
				}
			}
			if needs(q).number[0] > needs(p).number[0] {
				t.Fatalf("%+v needs more comparisons than %+v", q, p)
			}
			if after < before {
				n[name+": fewer ways"]++
			}
			if len(orders(q).lists) < len(orders(p).lists) {
				n[name+": fewer orders"]++
			}
		}
	}
	n.need(t, 200, "marked: fewer ways", "narrower: fewer ways", "marked: fewer orders", "narrower: fewer orders")
}

// changed returns a list with other numbers for its cards.
func changed(list, number []int) (other []int) {
	for _, card := range list {
		other = append(other, number[card])
	}
	return other
}

// If cards are numbered otherwise, nothing changes but their numbers.
func TestRenumberedCards(t *testing.T) {
	r := rand.New(rand.NewPCG(159, 160))
	for range 700 {
		p, truth := anyPrints(r)
		number := r.Perm(len(p.Cards))
		q, _ := numbered(p, truth, number)
		expect(t, "Ways", ways(q), ways(p))
		expect(t, "how many originals", fewest(q).number, fewest(p).number)
		expect(t, "Needs", needs(q), needs(p))
		expect(t, "how many orders are left", compare(q).number[2], compare(p).number[2])
		expect(t, "the error of Compare", compare(q).e, compare(p).e)
		var lists [][]int
		for _, order := range orders(p).lists {
			lists = append(lists, changed(order, number))
		}
		slices.SortFunc(lists, slices.Compare[[]int])
		expect(t, "Orders", orders(q).lists, lists)
		for a := range number {
			var made outcome
			for b := range number {
				if a == b {
					continue
				}
				expect(t, "Fits", fits(q, number[a], number[b]), fits(p, a, b))
				expect(t, "From", from(q, number[a], number[b]), from(p, a, b))
				if parents(p, a).number[0]&(1<<b) != 0 {
					made.number[0] |= 1 << number[b]
				}
			}
			expect(t, "Parents", parents(q, number[a]).number, made.number)
		}
		if t.Failed() {
			t.Fatalf("of %+v by %v", p, number)
		}
	}
}

// canLoseBothWays returns whether a number of one span can be less by a number of another one, and the other way round.
func canLoseBothWays(s, other, by api.Span) bool {
	loses := func(a, b api.Span) bool { return b.Hi-a.Lo >= by.Lo && b.Lo-a.Hi <= by.Hi }
	return loses(s, other) && loses(other, s)
}

// Two cards can each be a copy of the other one only if both what they measure and how much they show can differ both ways.
func TestCopiesOfEachOther(t *testing.T) {
	r := rand.New(rand.NewPCG(161, 162))
	n := kinds{}
	for range 4000 {
		p, _ := anyPrints(r)
		for a, card := range p.Cards {
			for b, other := range p.Cards[:a] {
				can := canLoseBothWays(card.Size, other.Size, p.Less) && canLoseBothWays(card.Wide, other.Wide, p.Loss) && card.Marks == other.Marks
				if each := fits(p, a, b).is && fits(p, b, a).is; each != can {
					t.Fatalf("the cards %d and %d of %+v can be copies of each other: %v is told", a, b, p, each)
				}
				if can {
					n["both ways"]++
				} else {
					n["one way, or none"]++
				}
			}
		}
	}
	n.need(t, 500, "both ways", "one way, or none")
}

// What one function tells agrees with what the others tell.
func TestOneAnswerAgreesWithTheOthers(t *testing.T) {
	r := rand.New(rand.NewPCG(163, 164))
	for range 1000 {
		p, _ := anyPrints(r)
		few := fewest(p)
		expect(t, "how many originals", originalsOf(few.list), few.number[0])
		for a := range p.Cards {
			made := parents(p, a)
			expect(t, "the card of the way is a parent", few.list[a] == api.NoCard || made.number[0]&(1<<few.list[a]) != 0, true)
			for b := range p.Cards {
				if a == b {
					continue
				}
				expect(t, "Fits, and Parents", fits(p, a, b).is, made.number[0]&(1<<b) != 0)
				if o := from(p, a, b).number[0]; o == api.CopyAlways {
					expect(t, "From, turned", from(p, b, a), told(api.CopyNever))
					expect(t, "it comes so in the told way", comesFrom(few.list, a, b), true)
				} else if o == api.CopyNever {
					expect(t, "it does not come so in the told way", comesFrom(few.list, a, b), false)
				}
			}
		}
		if lists := orders(p).lists; len(lists) > 0 {
			expect(t, "a chain has one original", few.number[0], min(1, len(p.Cards)))
		}
		if t.Failed() {
			t.Fatalf("of %+v", p)
		}
	}
}

// The cards that are told to be compared leave as many orders as is told.
func TestComparingTheToldCards(t *testing.T) {
	r := rand.New(rand.NewPCG(165, 166))
	n := kinds{}
	for range 20000 {
		p, _ := anyPrints(r)
		o := compare(p)
		if o.e != api.OK {
			n["no need"]++
			continue
		}
		lists, a, b := orders(p).lists, o.number[0], o.number[1]
		one, other := having(lists, a, b), having(lists, b, a)
		if a >= b || len(one) == 0 || len(other) == 0 || len(one)+len(other) != len(lists) || max(len(one), len(other)) != o.number[2] {
			t.Fatalf("Compare of %+v: %+v", p, o)
		}
		n["compared"]++
	}
	n.need(t, 500, "no need", "compared")
}

// Arguments are only read, also behind what they contain; the same call has the same result.
func TestArgumentsAreOnlyRead(t *testing.T) {
	r := rand.New(rand.NewPCG(167, 168))
	for range 500 {
		p, _ := anyPrints(r)
		many := len(p.Cards)
		p.Cards = append(p.Cards, sized(7, 8, 1), sized(9, 9, 2))[:many]
		before := slices.Clone(p.Cards[:many+2])
		once := everything(p, 0, many-1)
		for name, again := range everything(p, 0, many-1) {
			expect(t, name+", asked again", again, once[name])
		}
		expect(t, "the cards", p.Cards[:many+2], before)
	}
}

// Results are new memory.
func TestResultsAreNew(t *testing.T) {
	p := same(5)
	list, _, _ := copy.Fewest(p)
	lists, _ := copy.Orders(p)
	for k := range list {
		list[k] = 9
	}
	for k, order := range lists {
		for place := range order {
			order[place] = k
		}
	}
	for k, order := range lists {
		expect(t, "an order that is written over", order, slices.Repeat([]int{k}, 5))
		lists[k] = append(order, 7)
	}
	for k, order := range lists {
		expect(t, "an order that is longer", order, append(slices.Repeat([]int{k}, 5), 7))
	}
	expect(t, "the cards", p, same(5))
	expect(t, "Fewest", fewest(p), way(1, -1, 0, 0, 0, 0))
	expect(t, "the last order", orders(p).lists[119], []int{4, 3, 2, 1, 0})
}

// A nil list and an empty one are the same value.
func TestNilAndEmpty(t *testing.T) {
	want := everything(api.Prints{}, 0, 1)
	for name, got := range everything(api.Prints{Cards: []api.Print{}}, 0, 1) {
		expect(t, name, got, want[name])
	}
	expect(t, "how many orders of no cards", len(want["Orders"].lists), 1)
}

// No call panics, whatever it is given, and with an error all other results are zero.
func TestAnyNumbers(t *testing.T) {
	r := rand.New(rand.NewPCG(169, 170))
	some := []int{math.MinInt, -1, 0, 1, 2, 3, 4, 5, 6, 1<<api.MaxDust - 1, 1 << api.MaxDust, api.MaxSize, api.MaxSize + 1, math.MaxInt}
	any := func() int { return some[r.IntN(len(some))] }
	errors := map[api.Errno]int{}
	for range 4000 {
		p, _ := anyPrints(r)
		spans := []*api.Span{&p.Less, &p.Loss}
		for k := range p.Cards {
			spans = append(spans, &p.Cards[k].Size, &p.Cards[k].Wide)
			if r.IntN(20) == 0 {
				p.Cards[k].Marks = any()
			}
		}
		for range r.IntN(3) {
			wild := span(any(), any())
			if r.IntN(4) > 0 {
				wild = span(min(wild.Lo, wild.Hi), max(wild.Lo, wild.Hi))
			}
			*spans[r.IntN(len(spans))] = wild
		}
		if r.IntN(20) == 0 {
			p.Cards = slices.Repeat([]api.Print{{}}, r.IntN(8))
		}
		for name, got := range everything(p, any(), any()) {
			errors[got.e]++
			if got.e != api.OK {
				expect(t, name, got, failed(got.e))
			}
		}
	}
	for _, e := range []api.Errno{api.OK, api.ErrArg, api.ErrRange, api.ErrNone} {
		if errors[e] < 500 {
			t.Errorf("just %d calls with the error %d", errors[e], e)
		}
	}
	if len(errors) != 4 {
		t.Errorf("there are other errors: %v", errors)
	}
}
