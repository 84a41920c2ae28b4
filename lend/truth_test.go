package lend_test

import (
	"fmt"
	"math/bits"
	"math/rand/v2"
	"slices"
	"testing"

	"pairworks/api"
)

// out is where a card is that is in no slot.
const out = -1

// truth is where each card is at the end, and which loans put a card back wrong.
type truth struct {
	at    []int
	wrong int
}

// misplaced returns how many cards are in a wrong slot.
func (x truth) misplaced(homes []int) (many int) {
	for card, k := range x.at {
		if k != homes[card] && k != out {
			many++
		}
	}
	return many
}

// by returns the persons who put a card back wrong.
func (x truth) by(loans []api.Loan) (people int) {
	for k, loan := range loans {
		people |= x.wrong >> k & 1 << loan.Person
	}
	return people
}

// happens returns whether a truth can go on with a loan, if a card that is put back comes into some slot.
func (x truth) happens(loan api.Loan, k int) bool {
	switch loan.Kind {
	case api.LendTake:
		return x.at[loan.Card] != out
	case api.LendBack:
		return x.at[loan.Card] == out && !slices.Contains(x.at, k)
	}
	for card, k := range x.at {
		if k == loan.Slot {
			return card == loan.Card
		}
	}
	return loan.Card == api.NoCard
}

// truthsOf returns all truths, and how many loans there can be at most.
func truthsOf(c api.Cabinet) (all []truth, longest int) {
	var replay func(x truth, number int)
	replay = func(x truth, number int) {
		longest = max(longest, number)
		if number == len(c.Loans) {
			all = append(all, x)
			return
		}
		loan := c.Loans[number]
		for k := range c.Slots {
			if !x.happens(loan, k) {
				continue
			}
			then := truth{slices.Clone(x.at), x.wrong}
			switch loan.Kind {
			case api.LendTake:
				then.at[loan.Card] = out
			case api.LendBack:
				then.at[loan.Card] = k
				if k != c.Homes[loan.Card] {
					then.wrong |= 1 << number
				}
			}
			if bits.OnesCount(uint(then.wrong)) <= c.Wrong {
				replay(then, number+1)
			}
			if loan.Kind != api.LendBack {
				return // it is the same with each slot
			}
		}
	}
	replay(truth{slices.Clone(c.Homes), 0}, 0)
	return all, longest
}

// left returns the most states that are left after a look into a slot.
func left(states map[string]truth, k int) int {
	seen := map[int]int{}
	for _, x := range states {
		seen[slices.Index(x.at, k)]++
	}
	most := 0
	for _, n := range seen {
		most = max(most, n)
	}
	return most
}

// statesOf returns one truth of each state at the end.
func statesOf(all []truth) map[string]truth {
	states := map[string]truth{}
	for _, x := range all {
		states[fmt.Sprint(x.at)] = x
	}
	return states
}

// bestLook returns what Next must tell.
func bestLook(all []truth, slots int) outcome {
	states := statesOf(all)
	if len(states) < 2 {
		return failed(api.ErrNone)
	}
	best := 0
	for k := slots - 1; k >= 0; k-- {
		if left(states, k) <= left(states, best) {
			best = k
		}
	}
	return told(best, left(states, best))
}

// fewestWrong returns what Wrongs must tell.
func fewestWrong(c api.Cabinet) outcome {
	c.Wrong = len(c.Loans)
	all, _ := truthsOf(c)
	if len(all) == 0 {
		return failed(api.ErrNone)
	}
	fewest := len(c.Loans)
	for _, x := range all {
		fewest = min(fewest, bits.OnesCount(uint(x.wrong)))
	}
	return told(fewest)
}

// wanted returns what all functions must tell.
func wanted(c api.Cabinet, card, k int) map[string]outcome {
	all, longest := truthsOf(c)
	want := map[string]outcome{"Check": failed(api.ErrNone), "Wrongs": fewestWrong(c)}
	if len(all) == 0 {
		want["Check"] = told(longest)
		for _, name := range []string{"Where", "Slot", "Blame", "People", "Misplaced", "Next"} {
			want[name] = failed(api.ErrNone)
		}
		return want
	}
	var where, slot outcome
	blame, people := told(-1, 0), told(-1, 0)
	misplaced := told(len(c.Homes), 0)
	for _, x := range all {
		if x.at[card] == out {
			where.also = true
		} else {
			where.number[0] |= 1 << x.at[card]
		}
		if inside := slices.Index(x.at, k); inside < 0 {
			slot.also = true
		} else {
			slot.number[0] |= 1 << inside
		}
		by, wrong := x.by(c.Loans), x.misplaced(c.Homes)
		blame = told(blame.number[0]&x.wrong, blame.number[1]|x.wrong)
		people = told(people.number[0]&by, people.number[1]|by)
		misplaced = told(min(misplaced.number[0], wrong), max(misplaced.number[1], wrong))
	}
	want["Where"], want["Slot"], want["Blame"], want["People"], want["Misplaced"] = where, slot, blame, people, misplaced
	want["Next"] = bestLook(all, c.Slots)
	return want
}

// cabinets makes cabinets, and what truly happens at them.
type cabinets struct {
	*rand.Rand
	slots, loans   int // at most
	wrong, strange int // how many of a hundred
}

// home returns a cabinet with cards in it, and what is true at first.
func (r cabinets) home() (api.Cabinet, truth) {
	c := api.Cabinet{Slots: 1 + r.IntN(r.slots)}
	cards := r.IntN(min(c.Slots, api.MaxLent)) + 1
	c.Homes = r.Perm(c.Slots)[:cards]
	return c, truth{slices.Clone(c.Homes), 0}
}

// loan returns a loan that can be.
func (r cabinets) loan(c api.Cabinet, x truth) api.Loan {
	card, person := r.IntN(len(c.Homes)), r.IntN(1+r.IntN(api.MaxPeople))
	switch {
	case r.IntN(3) == 0:
		k := r.IntN(c.Slots)
		return look(k, slices.Index(x.at, k))
	case x.at[card] != out:
		return take(person, card)
	}
	return back(person, card)
}

// strangeLoan returns any loan, also one that cannot be.
func (r cabinets) strangeLoan(c api.Cabinet) api.Loan {
	card, person := r.IntN(len(c.Homes)), r.IntN(api.MaxPeople)
	switch r.IntN(4) {
	case 0:
		return take(person, card)
	case 1:
		return back(person, card)
	}
	return look(r.IntN(c.Slots), r.IntN(len(c.Homes)+1)-1)
}

// put returns the slot into which a card comes.
func (r cabinets) put(c api.Cabinet, x truth, card int) int {
	home := c.Homes[card]
	if r.IntN(100) >= r.wrong && !slices.Contains(x.at, home) {
		return home
	}
	var empty []int
	for k := range c.Slots {
		if !slices.Contains(x.at, k) {
			empty = append(empty, k)
		}
	}
	return empty[r.IntN(len(empty))]
}

// cabinet returns a cabinet, and what is true at the end.
func (r cabinets) cabinet() (api.Cabinet, truth) {
	c, x := r.home()
	for number := range r.IntN(r.loans + 1) {
		loan := r.loan(c, x)
		if r.IntN(100) < r.strange {
			loan = r.strangeLoan(c)
		}
		c.Loans = append(c.Loans, loan)
		switch {
		case loan.Kind == api.LendTake:
			x.at[loan.Card] = out
		case loan.Kind == api.LendBack && x.at[loan.Card] == out:
			x.at[loan.Card] = r.put(c, x, loan.Card)
			if x.at[loan.Card] != c.Homes[loan.Card] {
				x.wrong |= 1 << number
			}
		}
	}
	truly := bits.OnesCount(uint(x.wrong))
	c.Wrong = min(truly+r.IntN(3), api.MaxLoans)
	if r.IntN(100) < 5*r.strange {
		c.Wrong = r.IntN(truly + 1)
	}
	return c, x
}

// anyCabinets makes cabinets, of which some are strange.
func anyCabinets(seed uint64) cabinets {
	return cabinets{rand.New(rand.NewPCG(seed, seed+1)), 5, api.MaxLoans, 60, 3}
}

// trueCabinets makes cabinets at which all can be as it is told.
func trueCabinets(seed uint64) cabinets {
	r := anyCabinets(seed)
	r.strange = 0
	return r
}

// kinds counts what was met.
type kinds map[string]int

// need checks that each of these was met often enough.
func (n kinds) need(t *testing.T, least int, names ...string) {
	t.Helper()
	for _, name := range names {
		if n[name] < least {
			t.Errorf("%q was met %d times, which is too seldom", name, n[name])
		}
	}
}

// meet counts what is met in results.
func (n kinds) meet(want map[string]outcome) {
	is := func(name string, holds bool) {
		if holds {
			n[name]++
		}
	}
	check, blame, people, misplaced := want["Check"], want["Blame"], want["People"], want["Misplaced"]
	is("there is a truth", check.e == api.ErrNone)
	is("there is no truth", check.e == api.OK)
	is("there is no truth up to the first loan", check == told(0))
	is("there is no truth up to a later loan", check.e == api.OK && check.number[0] > 3)
	is("no truth, but with more that are wrong", check.e == api.OK && want["Wrongs"].e == api.OK)
	is("two were wrong at least", want["Wrongs"].number[0] > 1)
	is("a card is out", want["Where"].also)
	is("a card can be in some slots", bits.OnesCount(uint(want["Where"].number[0])) > 1)
	is("a slot can be empty", want["Slot"].also && want["Slot"].number[0] > 0)
	is("a slot can contain some cards", bits.OnesCount(uint(want["Slot"].number[0])) > 1)
	is("some surely, and some perhaps to blame", blame.number[0] > 0 && blame.number[1] != blame.number[0])
	is("some persons surely, and some perhaps", people.number[0] > 0 && people.number[1] != people.number[0])
	is("more are surely misplaced", misplaced.number[0] > 1)
	is("some are perhaps misplaced", misplaced.number[1] > misplaced.number[0])
	is("a look leaves one state", want["Next"].number[1] == 1)
	is("a look leaves more states", want["Next"].number[1] > 1)
	is("a look into a later slot", want["Next"].number[0] > 1)
}

// Each result is what all truths tell, one by one.
func TestAgainstAllTruths(t *testing.T) {
	r, n := anyCabinets(1101), kinds{}
	for range 12000 {
		c, _ := r.cabinet()
		card, k := r.IntN(len(c.Homes)), r.IntN(c.Slots)
		want, got := wanted(c, card, k), everything(c, card, k)
		for name := range got {
			expect(t, name, got[name], want[name])
		}
		if t.Failed() {
			t.Fatalf("the cabinet is %+v, the card %d, the slot %d", c, card, k)
		}
		n.meet(want)
	}
	n.need(t, 40, "there is a truth", "there is no truth", "there is no truth up to the first loan", "there is no truth up to a later loan",
		"no truth, but with more that are wrong", "two were wrong at least", "a card is out", "a card can be in some slots", "a slot can be empty",
		"a slot can contain some cards", "some surely, and some perhaps to blame", "some persons surely, and some perhaps",
		"more are surely misplaced", "some are perhaps misplaced", "a look leaves one state", "a look leaves more states", "a look into a later slot")
}

// Each result is what all truths tell, also if a cabinet is as large as it can be.
func TestAgainstAllTruthsOfLargeCabinets(t *testing.T) {
	r := anyCabinets(1103)
	r.slots = api.MaxLendSlots
	for range 1500 {
		c, _ := r.cabinet()
		c.Slots = api.MaxLendSlots
		card, k := r.IntN(len(c.Homes)), r.IntN(c.Slots)
		want, got := wanted(c, card, k), everything(c, card, k)
		for name := range got {
			expect(t, name, got[name], want[name])
		}
		if t.Failed() {
			t.Fatalf("the cabinet is %+v, the card %d, the slot %d", c, card, k)
		}
	}
}
