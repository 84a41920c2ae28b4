package lend_test

import (
	"fmt"
	"math"
	"math/bits"
	"math/rand/v2"
	"slices"
	"testing"

	"pairworks/api"
)

// isIn returns whether all of a set is in another one.
func isIn(set, other int) bool { return set&^other == 0 }

// Wherever cards were truly put back, what is told is so.
func TestTruthsAreTold(t *testing.T) {
	r, n := trueCabinets(1105), kinds{}
	for range 4000 {
		c, x := r.cabinet()
		expect(t, "Check", check(c), failed(api.ErrNone))
		var places []int
		for card, k := range x.at {
			o := where(c, card)
			places = append(places, o.number[0])
			if k == out && o != or() || k != out && (o.also || !isIn(1<<k, o.number[0])) {
				t.Errorf("the card %d is where %v tells", card, o)
			}
		}
		for k := range c.Slots {
			o := slot(c, k)
			card := slices.Index(x.at, k)
			if card < 0 && !o.also || card >= 0 && !isIn(1<<card, o.number[0]) {
				t.Errorf("the slot %d has what %v tells", k, o)
			}
			for card, slots := range places {
				if o.number[0]>>card&1 != slots>>k&1 {
					t.Errorf("the card %d can be in the slot %d, or not", card, k)
				}
			}
		}
		for name, o := range map[string][2]int{"Blame": {x.wrong, 0}, "People": {x.by(c.Loans), 1}} {
			got := []outcome{blame(c), people(c)}[o[1]]
			if got.e != api.OK || !isIn(got.number[0], o[0]) || !isIn(o[0], got.number[1]) {
				t.Errorf("%s tells %v, and true is %b", name, got, o[0])
			}
			if got.number[0] > 0 {
				n[name]++
			}
		}
		wrong := x.misplaced(c.Homes)
		if o := misplaced(c); o.e != api.OK || wrong < o.number[0] || wrong > o.number[1] {
			t.Errorf("%d are misplaced, and %v is told", wrong, o)
		}
		if o := wrongs(c); o.e != api.OK || o.number[0] > bits.OnesCount(uint(x.wrong)) {
			t.Errorf("%b were wrong, and %v is told", x.wrong, o)
		}
		if t.Failed() {
			t.Fatalf("of %+v the truth is %+v", c, x)
		}
		if wrong > 1 {
			n["two are misplaced"]++
		}
	}
	n.need(t, 80, "Blame", "People", "two are misplaced")
}

// isSurer checks that with more nothing can be that could not be before, and nothing is less sure.
func isSurer(t *testing.T, before, after api.Cabinet, number func(loans int) int) {
	t.Helper()
	for card := range before.Homes {
		o, p := where(before, card), where(after, card)
		if !isIn(p.number[0], o.number[0]) || p.also != o.also {
			t.Errorf("the card %d is where %v tells, and %v before", card, p, o)
		}
	}
	for k := range before.Slots {
		o, p := slot(before, k), slot(after, k)
		if !isIn(p.number[0], o.number[0]) || p.also && !o.also {
			t.Errorf("the slot %d has what %v tells, and %v before", k, p, o)
		}
	}
	o, p := blame(before).number, blame(after).number
	if !isIn(number(o[0]), p[0]) || !isIn(p[1], number(o[1])) {
		t.Errorf("to blame are %b, and %b before", p, o)
	}
	o, p = people(before).number, people(after).number
	if !isIn(o[0], p[0]) || !isIn(p[1], o[1]) {
		t.Errorf("to blame are the persons %b, and %b before", p, o)
	}
	o, p = misplaced(before).number, misplaced(after).number
	if p[0] < o[0] || p[1] > o[1] || p[0] > p[1] {
		t.Errorf("misplaced are %v, and %v before", p, o)
	}
	if o, p := wrongs(before), wrongs(after); p.number[0] < o.number[0] {
		t.Errorf("%v were wrong, and %v before", p, o)
	}
	if o, p := next(before), next(after); p.e == api.OK && (o.e != api.OK || p.number[1] > o.number[1]) {
		t.Errorf("the best look is %v, and %v before", p, o)
	}
}

// With one look more nothing can be that could not, and nothing is less sure.
func TestOneLookMore(t *testing.T) {
	r, n := trueCabinets(1107), kinds{}
	r.loans = api.MaxLoans - 1
	for range 5000 {
		c, _ := r.cabinet()
		at := len(c.Loans)
		if r.IntN(2) == 0 {
			at = r.IntN(at + 1)
		}
		more := c
		more.Loans = slices.Insert(slices.Clone(c.Loans), at, look(r.IntN(c.Slots), r.IntN(len(c.Homes)+1)-1))
		if check(more).e == api.OK {
			n["no truth then"]++
			continue
		}
		isSurer(t, c, more, func(loans int) int { return loans>>at<<(at+1) | loans&(1<<at-1) })
		if blame(more).number[0] != 0 && blame(c).number[0] == 0 {
			n["surer"]++
		}
		if t.Failed() {
			t.Fatalf("the look %d of %+v", at, more)
		}
	}
	n.need(t, 100, "no truth then", "surer")
}

// With a lesser Wrong nothing can be that could not, and nothing is less sure.
func TestLesserWrong(t *testing.T) {
	r, n := trueCabinets(1109), kinds{}
	for range 4000 {
		c, _ := r.cabinet()
		less := c
		less.Wrong = r.IntN(c.Wrong + 1)
		expect(t, "Wrongs", wrongs(less), wrongs(c))
		if check(less).e == api.OK {
			n["no truth then"]++
			continue
		}
		isSurer(t, c, less, func(loans int) int { return loans })
		if misplaced(c) != misplaced(less) {
			n["surer"]++
		}
		if t.Failed() {
			t.Fatalf("Wrong is %d of %+v", less.Wrong, c)
		}
	}
	n.need(t, 100, "no truth then", "surer")
}

// With a look into the slot of Next no more states are left than it tells, and with a look into another one it can be as many at least.
func TestLookIntoNext(t *testing.T) {
	r, n := trueCabinets(1111), kinds{}
	r.loans = api.MaxLoans - 1
	for range 3000 {
		c, _ := r.cabinet()
		all, _ := truthsOf(c)
		o := next(c)
		expect(t, "whether there is one state alone", o.e == api.ErrNone, len(statesOf(all)) == 1)
		if o.e != api.OK {
			continue
		}
		for k := range c.Slots {
			most := 0
			for card := api.NoCard; card < len(c.Homes); card++ {
				more := c
				more.Loans = append(slices.Clone(c.Loans), look(k, card))
				all, _ := truthsOf(more)
				most = max(most, len(statesOf(all)))
			}
			switch {
			case k == o.number[0]:
				expect(t, "the states that are left", most, o.number[1])
			case most < o.number[1] || most == o.number[1] && k < o.number[0]:
				t.Errorf("a look into the slot %d leaves %d states", k, most)
			case most > o.number[1]:
				n["a slot that leaves more"]++
			}
		}
		if t.Failed() {
			t.Fatalf("the best look is %v of %+v", o, c)
		}
	}
	n.need(t, 300, "a slot that leaves more")
}

// moved returns a set whose numbers are others.
func moved(set int, to []int) (all int) {
	for n, other := range to {
		all |= set >> n & 1 << other
	}
	return all
}

// renumbered returns a cabinet whose cards, slots and persons have other numbers.
func renumbered(c api.Cabinet, cards, slots, people []int) api.Cabinet {
	other := c
	other.Homes, other.Loans = make([]int, len(c.Homes)), nil
	for card, home := range c.Homes {
		other.Homes[cards[card]] = slots[home]
	}
	for _, loan := range c.Loans {
		if loan.Card != api.NoCard {
			loan.Card = cards[loan.Card]
		}
		if loan.Kind == api.LendLook {
			loan.Slot = slots[loan.Slot]
		} else {
			loan.Person = people[loan.Person]
		}
		other.Loans = append(other.Loans, loan)
	}
	return other
}

// If cards, slots and persons are numbered otherwise, nothing changes but their numbers.
func TestOtherNumbers(t *testing.T) {
	r := anyCabinets(1113)
	for range 1500 {
		c, _ := r.cabinet()
		cards, slots, persons := r.Perm(len(c.Homes)), r.Perm(c.Slots), r.Perm(api.MaxPeople)
		other := renumbered(c, cards, slots, persons)
		expect(t, "Check", check(other), check(c))
		expect(t, "Wrongs", wrongs(other), wrongs(c))
		expect(t, "Blame", blame(other), blame(c))
		expect(t, "Misplaced", misplaced(other), misplaced(c))
		want := people(c)
		want.number = [2]int{moved(want.number[0], persons), moved(want.number[1], persons)}
		expect(t, "People", people(other), want)
		for card, now := range cards {
			want := where(c, card)
			want.number[0] = moved(want.number[0], slots)
			expect(t, "Where", where(other, now), want)
		}
		for k, now := range slots {
			want := slot(c, k)
			want.number[0] = moved(want.number[0], cards)
			expect(t, "Slot", slot(other, now), want)
		}
		expect(t, "what the best look leaves", next(other).number[1], next(c).number[1])
		expect(t, "the error of Next", next(other).e, next(c).e)
		if t.Failed() {
			t.Fatalf("the numbers %v, %v and %v of %+v", cards, slots, persons, c)
		}
	}
}

// spare returns a list with something behind its end, and all of it.
func spare[T any](list []T, behind ...T) (short, all []T) {
	all = append(slices.Clone(list), behind...)
	return all[:len(list):len(all)], slices.Clone(all)
}

// Arguments are only read, also behind what they contain; the same call has the same result.
func TestArgumentsAreOnlyRead(t *testing.T) {
	r := anyCabinets(1115)
	for range 1000 {
		c, _ := r.cabinet()
		var homes []int
		var loans []api.Loan
		c.Homes, homes = spare(c.Homes, 98, 99)
		c.Loans, loans = spare(c.Loans, take(9, 9), look(9, 9))
		card, k := r.IntN(len(c.Homes)), r.IntN(c.Slots)
		once := everything(c, card, k)
		for name, again := range everything(c, card, k) {
			expect(t, name+", asked again", again, once[name])
		}
		expect(t, "homes", c.Homes[:len(homes)], homes)
		expect(t, "loans", c.Loans[:len(loans)], loans)
	}
}

// No call panics, whatever it is given, and with an error all other results are zero.
func TestAnyValues(t *testing.T) {
	r := anyCabinets(1117)
	numbers := []int{math.MinInt, -2, -1, 0, 1, 2, 3, 4, 5, 6, 7, 8, 12, 13, math.MaxInt}
	anyNumber := func() int { return numbers[r.IntN(len(numbers))] }
	errors := map[api.Errno]int{}
	for range 8000 {
		c, _ := r.cabinet()
		var loan api.Loan
		if len(c.Loans) > 0 {
			loan = c.Loans[0]
		}
		switch r.IntN(12) {
		case 0:
			c.Slots = anyNumber()
		case 1:
			c.Homes[0] = anyNumber()
		case 2:
			c.Wrong = anyNumber()
		case 3:
			loan.Kind = anyNumber()
		case 4:
			loan.Card = anyNumber()
		case 5:
			loan.Person = anyNumber()
		case 6:
			loan.Slot = anyNumber()
		case 7:
			c.Homes = slices.Repeat(c.Homes, r.IntN(3))
		case 8:
			c.Loans = slices.Repeat(c.Loans, r.IntN(3))
		}
		if len(c.Loans) > 0 {
			c.Loans[0] = loan
		}
		for name, got := range everything(c, anyNumber(), anyNumber()) {
			errors[got.e]++
			if got.e != api.OK {
				expect(t, fmt.Sprintf("%s of %+v", name, c), got, failed(got.e))
			}
		}
	}
	for _, e := range []api.Errno{api.OK, api.ErrArg, api.ErrRange, api.ErrNone} {
		if errors[e] < 300 {
			t.Errorf("just %d calls with the error %d", errors[e], e)
		}
	}
	if len(errors) != 4 {
		t.Errorf("there are other errors: %v", errors)
	}
}

// With the most states all is told at once, however often cards are taken and put back.
func TestMostStates(t *testing.T) {
	r := rand.New(rand.NewPCG(1119, 1120))
	for range 10 {
		c := cabinet(6, 5, api.MaxLoans)
		for _, card := range r.Perm(5) {
			c.Loans = append(c.Loans, take(card, card))
		}
		for _, card := range r.Perm(5) {
			c.Loans = append(c.Loans, back(7-card, card))
		}
		c.Loans = append(c.Loans, take(0, 3), back(0, 3))
		expect(t, "Misplaced", misplaced(c), told(0, 5))
		expect(t, "Next", next(c), told(0, 120))
		expect(t, "Blame", blame(c), told(0, setOf(5, 6, 7, 8, 9, 11)))
		expect(t, "People", people(c), told(0, setOf(0, 3, 4, 5, 6, 7)))
	}
}
