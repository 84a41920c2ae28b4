package heap_test

import (
	"fmt"
	"math"
	"math/bits"
	"math/rand/v2"
	"slices"
	"testing"

	"pairworks/api"
	"pairworks/heap"
)

// trueHeap returns boxes with a heap, and the entry that each card truly is.
func trueHeap(r *rand.Rand) (m api.Mixed, truth []int) {
	m.Boxes = anyBoxes(r, "abcd", 1+r.IntN(api.MaxTitle))
	all := cardsOf(m.Boxes)
	order := r.Perm(len(all))
	holes, stars := r.IntN(100), r.IntN(100)
	for _, entry := range order[:min(r.IntN(api.MaxCards+1), len(order))] {
		truth = append(truth, entry)
		m.Cards = append(m.Cards, trulyTorn(r, all[entry], holes, stars))
	}
	return m, truth
}

// Whatever was torn off, what the cards truly are is one of the ways, is what is sure, and is not lost.
func TestTruthsAreAmongTheWays(t *testing.T) {
	r := rand.New(rand.NewPCG(1003, 1004))
	n := kinds{}
	for range 4000 {
		m, truth := trueHeap(r)
		found := setOf(truth...)
		absent := 1<<len(cardsOf(m.Boxes)) - 1 - found
		sure, lost := sure(m), lost(m)
		if count(m).number[0] < 1 || why(m).e != api.OK || lost.e != api.OK || lost.number[0]&found != 0 || lost.number[1]&absent != absent {
			t.Errorf("%v ways, refused with %v, and lost are %v", count(m), why(m), lost)
		}
		if slices.Compare(first(m).list, truth) > 0 {
			t.Errorf("the first way is %v", first(m))
		}
		for card, entry := range truth {
			if fits(m, card).number[0]>>entry&1 == 0 || share(m, card, entry).number[0] < 1 {
				t.Errorf("the card %d cannot be the entry %d", card, entry)
			}
			if s := sure.list[card]; s != api.NoEntry {
				n["a sure entry"]++
				expect(t, "the entry that is sure", s, entry)
			}
		}
		if t.Failed() {
			t.Fatalf("the cards of %+v are %v", m, truth)
		}
		if lost.number[0] != 0 {
			n["a card that is lost"]++
		}
		n["ways"] += min(count(m).number[0]-1, 1)
	}
	n.need(t, 500, "a sure entry", "a card that is lost", "ways")
}

// withCards returns boxes with just these cards of a heap.
func withCards(m api.Mixed, cards int) api.Mixed {
	all := m.Cards
	m.Cards = nil
	for k, c := range all {
		if cards>>k&1 == 1 {
			m.Cards = append(m.Cards, c)
		}
	}
	return m
}

// The cards that are named have no way, whatever else lies in the heap, and without any one of them the others have one.
func TestNamedCardsHaveNoWay(t *testing.T) {
	r := rand.New(rand.NewPCG(1005, 1006))
	n := kinds{}
	for range 6000 {
		m := anyHeap(r)
		o := why(m)
		if (o.e == api.OK) != (count(m).number[0] > 0) {
			t.Fatalf("Why of %+v is %v, with %v ways", m, o, count(m))
		}
		if o.e == api.OK {
			continue
		}
		named := withCards(m, o.number[0])
		expect(t, "how many ways the cards that are named have", count(named), told(0))
		for k := range named.Cards {
			other := withCards(named, 1<<len(named.Cards)-1-1<<k)
			if count(other).number[0] == 0 || why(other).e != api.OK {
				t.Errorf("without the card %d of those that are named there is no way", k)
			}
		}
		n[fmt.Sprint(len(named.Cards))]++
		if t.Failed() {
			t.Fatalf("%v is refused of %+v", o, m)
		}
	}
	n.need(t, 100, "1", "2", "3")
}

// The ways of a card are shared among its entries.
func TestSharesOfWays(t *testing.T) {
	r := rand.New(rand.NewPCG(1007, 1008))
	for range 2000 {
		m, _ := trueHeap(r)
		if r.IntN(2) == 0 {
			m = anyHeap(r)
		}
		for card := range m.Cards {
			all, best := 0, 0
			for entry := range cardsOf(m.Boxes) {
				ways := share(m, card, entry).number[0]
				if ways > 0 && fits(m, card).number[0]>>entry&1 == 0 {
					t.Errorf("the card %d does not fit the entry %d", card, entry)
				}
				all, best = all+ways, max(best, ways)
			}
			expect(t, fmt.Sprint("the ways of the card ", card), count(m), told(all))
			if all > 0 {
				expect(t, "what is sure has all ways", sure(m).list[card] != api.NoEntry, best == all)
			}
		}
		if t.Failed() {
			t.Fatalf("the heap is %+v", m)
		}
	}
}

// readMore returns what is left of a text, of which one more thing is read.
func readMore(r *rand.Rand, piece, text string) string {
	bytes := []byte(piece)
	star := slices.Index(bytes, '*')
	if star >= 0 && r.IntN(2) == 0 {
		// As many bytes as were torn off, which are still holes.
		var holes []byte
		for range len(text) - len(bytes) + 1 {
			holes = append(holes, '?')
		}
		return string(bytes[:star]) + string(holes) + string(bytes[star+1:])
	}
	for k, b := range bytes {
		if b == '?' && r.IntN(2) == 0 {
			from := k
			if star >= 0 && k > star {
				from = len(text) - len(bytes) + k
			}
			bytes[k] = text[from]
		}
	}
	return string(bytes)
}

// If more of a card is read, nothing more can be.
func TestMoreIsRead(t *testing.T) {
	r := rand.New(rand.NewPCG(1009, 1010))
	n := kinds{}
	for range 3000 {
		m, truth := trueHeap(r)
		if len(truth) == 0 {
			continue
		}
		k := r.IntN(len(truth))
		truly := cardsOf(m.Boxes)[truth[k]]
		more := m
		more.Cards = slices.Clone(m.Cards)
		c := &more.Cards[k]
		if r.IntN(3) == 0 {
			c.Colour = truly.colour
		}
		c.Number, c.Text = readMore(r, c.Number, truly.number), readMore(r, c.Text, truly.title)
		if count(more).number[0] > count(m).number[0] || count(more).number[0] < 1 {
			t.Errorf("there are %v ways, and %v before", count(more), count(m))
		}
		for card := range m.Cards {
			for entry := range cardsOf(m.Boxes) {
				if ways, before := share(more, card, entry).number[0], share(m, card, entry).number[0]; ways > before {
					t.Errorf("the card %d is the entry %d in %d ways, and in %d before", card, entry, ways, before)
				}
			}
			if known := sure(m).list[card]; known != api.NoEntry {
				expect(t, "what is sure still", sure(more).list[card], known)
			}
		}
		before, after := lost(m).number, lost(more).number
		if before[0]&^after[0] != 0 || after[1]&^before[1] != 0 {
			t.Errorf("lost are %v, and %v before", after, before)
		}
		if t.Failed() {
			t.Fatalf("%+v is read of the card %d of %+v", more.Cards[k], k, m)
		}
		if count(more).number[0] < count(m).number[0] {
			n["fewer ways"]++
		}
	}
	n.need(t, 150, "fewer ways")
}

// Without a card of the heap each way of the others is one still; with one more there are no more ways for the others.
func TestOneMoreCard(t *testing.T) {
	r := rand.New(rand.NewPCG(1011, 1012))
	k, n := known{}, kinds{}
	for range 3000 {
		m := anyHeap(r)
		gone := r.IntN(len(m.Cards))
		without := withCards(m, 1<<len(m.Cards)-1-1<<gone)
		fewer := map[string]bool{}
		for _, way := range waysOf(k.fitting(without)) {
			fewer[fmt.Sprint(way)] = true
		}
		expect(t, "the ways without the card", count(without), told(len(fewer)))
		others := map[string]bool{}
		for _, way := range waysOf(k.fitting(m)) {
			rest := fmt.Sprint(slices.Delete(way, gone, gone+1))
			others[rest] = true
			if !fewer[rest] {
				t.Errorf("%s is no way without the card", rest)
			}
		}
		if len(others) > count(without).number[0] {
			t.Errorf("with the card there are %d ways for the others", len(others))
		}
		if o := first(m); o.e == api.OK {
			if rest := slices.Delete(o.list, gone, gone+1); slices.Compare(first(without).list, rest) > 0 || !fewer[fmt.Sprint(rest)] {
				t.Errorf("%v is the first way without the card, but %v is one", first(without), rest)
			}
			sureWith := slices.Delete(sure(m).list, gone, gone+1)
			for card, entry := range sure(without).list {
				if entry != api.NoEntry {
					expect(t, "what is sure still", sureWith[card], entry)
				}
			}
		} else if o := why(without); o.e != api.OK {
			n["no way, also without it"]++
		} else {
			n["no way with it"]++
			if why(m).number[0]>>gone&1 == 0 {
				t.Errorf("%v is refused, without the card that has no way", why(m))
			}
		}
		if len(others) < len(fewer) && len(others) > 0 {
			n["fewer ways"]++
		}
		if t.Failed() {
			t.Fatalf("the card %d of %+v", gone, m)
		}
	}
	n.need(t, 100, "no way with it", "no way, also without it", "fewer ways")
}

// The order of cards makes no difference but to their numbers.
func TestOrderOfCards(t *testing.T) {
	r := rand.New(rand.NewPCG(1013, 1014))
	for range 3000 {
		m := anyHeap(r)
		other, order := m, r.Perm(len(m.Cards))
		other.Cards = nil
		for _, k := range order {
			other.Cards = append(other.Cards, m.Cards[k])
		}
		expect(t, "Count", count(other), count(m))
		expect(t, "Lost", lost(other), lost(m))
		expect(t, "the error of Sure", sure(other).e, sure(m).e)
		expect(t, "the error of First", first(other).e, first(m).e)
		expect(t, "the error of Why", why(other).e, why(m).e)
		named := 0
		for now, before := range order {
			expect(t, "Fits", fits(other, now), fits(m, before))
			if list := sure(other).list; list != nil {
				expect(t, "Sure", list[now], sure(m).list[before])
			}
			for entry := range cardsOf(m.Boxes) {
				expect(t, "Share", share(other, now, entry), share(m, before, entry))
			}
			named |= why(other).number[0] >> now & 1 << before
		}
		expect(t, "how many cards are named", bits.OnesCount(uint(named)), bits.OnesCount(uint(why(m).number[0])))
		expect(t, "the ways of those that are named", count(withCards(m, named)).number[0] > 0, named == 0)
		if t.Failed() {
			t.Fatalf("the order %v of %+v", order, m)
		}
	}
}

// spare returns a list with something behind its end, and all of it.
func spare[T any](list []T, behind ...T) (short, all []T) {
	all = append(slices.Clone(list), behind...)
	return all[:len(list):len(all)], slices.Clone(all)
}

// Arguments are only read, also behind what they contain; the same call has the same result.
func TestArgumentsAreOnlyRead(t *testing.T) {
	r := rand.New(rand.NewPCG(1015, 1016))
	for range 500 {
		m := anyHeap(r)
		var boxes []api.Box
		var cards []api.Torn
		m.Boxes, boxes = spare(m.Boxes, box(9, "z"), box(8, "y"))
		m.Cards, cards = spare(m.Cards, torn(9, "9", "z"), torn(8, "8", "y"))
		titles := make([][]string, len(m.Boxes))
		for k := range m.Boxes {
			m.Boxes[k].Titles, titles[k] = spare(m.Boxes[k].Titles, "x", "w")
			boxes[k].Titles = slices.Clone(m.Boxes[k].Titles)
		}
		card, entry := r.IntN(len(m.Cards)), r.IntN(api.MaxEntries)
		once := everything(m, card, entry)
		for name, again := range everything(m, card, entry) {
			expect(t, name+", asked again", again, once[name])
		}
		for k := range m.Boxes {
			expect(t, "titles", m.Boxes[k].Titles[:cap(m.Boxes[k].Titles)], titles[k])
			m.Boxes[k].Titles = slices.Clone(m.Boxes[k].Titles)
		}
		expect(t, "cards", m.Cards[:len(cards)], cards)
		expect(t, "boxes", len(m.Boxes[:len(boxes)]), len(boxes))
		for k, b := range m.Boxes[:len(boxes)] {
			expect(t, "a box", fmt.Sprint(b), fmt.Sprint(boxes[k]))
		}
	}
}

// Lists that are returned are new memory: what is written to one changes no other one.
func TestResultsAreNew(t *testing.T) {
	for _, m := range []api.Mixed{sample(), numbered(5, "*", "*", "3"), numbered(3, "3", "2", "1")} {
		for name, ask := range map[string]func(api.Mixed) ([]int, api.Errno){"First": heap.First, "Sure": heap.Sure} {
			one, _ := ask(m)
			want := slices.Clone(one)
			other, _ := ask(m)
			for k := range one {
				one[k] = 99
			}
			_ = append(one, 98)
			third, _ := ask(m)
			expect(t, name+", asked before", other, want)
			expect(t, name+", asked again", third, want)
		}
	}
}

// No call panics, whatever it is given, and with an error all other results are zero, but for the cards that Why names.
func TestAnyValues(t *testing.T) {
	r := rand.New(rand.NewPCG(1017, 1018))
	numbers := []int{math.MinInt, -2, -1, 0, 1, 2, 3, 4, 5, 8, 9, 10, 11, 12, 13, math.MaxInt}
	texts := []string{"", "a", "b", "1", "?", "*", "**", "A", "\xff", "abcdefghijkl", "abcdefghijklm", "???????????*", "a\n"}
	anyNumber := func() int { return numbers[r.IntN(len(numbers))] }
	anyText := func() string { return texts[r.IntN(len(texts))] }
	errors := map[api.Errno]int{}
	for range 6000 {
		m := anyHeap(r)
		switch r.IntN(12) {
		case 0:
			m.Cards[0].Colour = anyNumber()
		case 1:
			m.Cards[0].Number = anyText()
		case 2:
			m.Cards[0].Text = anyText()
		case 3:
			m.Boxes[0].Colour = anyNumber()
		case 4:
			m.Boxes[0].Titles = append(m.Boxes[0].Titles, anyText())
		case 5:
			m.Boxes = make([]api.Box, r.IntN(7))
		case 6:
			m.Cards = slices.Repeat(m.Cards, r.IntN(4))
		}
		for name, got := range everything(m, anyNumber(), anyNumber()) {
			errors[got.e]++
			switch {
			case got.e == api.ErrRefuse:
				expect(t, name, got.number[0] != 0 && got.list == nil, true)
			case got.e != api.OK:
				expect(t, name, got, failed(got.e))
			}
		}
	}
	for _, e := range []api.Errno{api.OK, api.ErrArg, api.ErrRange, api.ErrNone, api.ErrRefuse} {
		if errors[e] < 300 {
			t.Errorf("just %d calls with the error %d", errors[e], e)
		}
	}
	if len(errors) != 5 {
		t.Errorf("there are other errors: %v", errors)
	}
}
