package lend_test

import (
	"fmt"
	"math"
	"reflect"
	"slices"
	"testing"

	"pairworks/api"
	"pairworks/lend"
)

// take returns the loan in which a person takes a card out; the slot is not looked at.
func take(person, card int) api.Loan {
	return api.Loan{Kind: api.LendTake, Card: card, Person: person, Slot: 77}
}

// back returns the loan in which a person puts a card back; the slot is not looked at.
func back(person, card int) api.Loan {
	return api.Loan{Kind: api.LendBack, Card: card, Person: person, Slot: -77}
}

// look returns a look into a slot, in which this card is; the person is not looked at.
func look(slot, card int) api.Loan {
	return api.Loan{Kind: api.LendLook, Card: card, Person: 88, Slot: slot}
}

// sample returns the cabinet of the chapter's examples, and more loans.
func sample(wrong int, more ...api.Loan) api.Cabinet {
	loans := []api.Loan{take(0, 0), take(1, 1), back(0, 0), back(1, 1)}
	return api.Cabinet{Slots: 4, Homes: []int{0, 1, 2}, Wrong: wrong, Loans: append(loans, more...)}
}

// fourth returns the loan 4 of the chapter's examples.
func fourth() api.Loan { return look(1, 0) }

// cabinet returns a cabinet, in which as many cards are in the first slots.
func cabinet(slots, cards, wrong int, loans ...api.Loan) api.Cabinet {
	c := api.Cabinet{Slots: slots, Wrong: wrong, Loans: loans}
	for k := range cards {
		c.Homes = append(c.Homes, k)
	}
	return c
}

// setOf returns the set of some numbers.
func setOf(numbers ...int) (set int) {
	for _, n := range numbers {
		set |= 1 << n
	}
	return set
}

// outcome is all results of a call.
type outcome struct {
	number [2]int
	also   bool // out, or empty
	e      api.Errno
}

func told(numbers ...int) outcome {
	var o outcome
	copy(o.number[:], numbers)
	return o
}

// sets returns an outcome of two sets.
func sets(surely, can []int) outcome { return told(setOf(surely...), setOf(can...)) }

// only returns an outcome of a set, and nothing else.
func only(numbers ...int) outcome { return told(setOf(numbers...)) }

// or returns an outcome of a set, or nothing.
func or(numbers ...int) outcome { return outcome{number: [2]int{setOf(numbers...)}, also: true} }

func failed(e api.Errno) outcome { return outcome{e: e} }

func check(c api.Cabinet) outcome {
	n, e := lend.Check(c)
	return outcome{number: [2]int{n}, e: e}
}

func where(c api.Cabinet, card int) outcome {
	slots, out, e := lend.Where(c, card)
	return outcome{[2]int{slots}, out, e}
}

func slot(c api.Cabinet, k int) outcome {
	cards, empty, e := lend.Slot(c, k)
	return outcome{[2]int{cards}, empty, e}
}

func wrongs(c api.Cabinet) outcome {
	n, e := lend.Wrongs(c)
	return outcome{number: [2]int{n}, e: e}
}

func blame(c api.Cabinet) outcome {
	surely, can, e := lend.Blame(c)
	return outcome{number: [2]int{surely, can}, e: e}
}

func people(c api.Cabinet) outcome {
	surely, can, e := lend.People(c)
	return outcome{number: [2]int{surely, can}, e: e}
}

func misplaced(c api.Cabinet) outcome {
	s, e := lend.Misplaced(c)
	return outcome{number: [2]int{s.Lo, s.Hi}, e: e}
}

func next(c api.Cabinet) outcome {
	k, left, e := lend.Next(c)
	return outcome{number: [2]int{k, left}, e: e}
}

// everything returns the results of all functions.
func everything(c api.Cabinet, card, k int) map[string]outcome {
	return map[string]outcome{
		"Check": check(c), "Where": where(c, card), "Slot": slot(c, k), "Wrongs": wrongs(c),
		"Blame": blame(c), "People": people(c), "Misplaced": misplaced(c), "Next": next(c),
	}
}

func expect(t *testing.T, what string, got, want any) {
	t.Helper()
	if !reflect.DeepEqual(got, want) {
		t.Errorf("%s: got %+v, want %+v", what, got, want)
	}
}

func TestExamples(t *testing.T) {
	c, with, both := sample(1), sample(1, fourth()), sample(2, fourth())
	expect(t, "Check", check(c), failed(api.ErrNone))
	expect(t, "Check with the loan 4", check(with), told(4))
	expect(t, "Check with it, and Wrong 2", check(both), failed(api.ErrNone))
	for card, want := range []outcome{only(0, 3), only(1, 3), only(2)} {
		expect(t, fmt.Sprint("Where of ", card), where(c, card), want)
	}
	expect(t, "Slot of 3", slot(c, 3), or(0, 1))
	expect(t, "Slot of 0", slot(c, 0), or(0))
	expect(t, "Wrongs", wrongs(c), told(0))
	expect(t, "Wrongs with the loan 4", wrongs(with), told(2))
	expect(t, "Blame", blame(c), sets(nil, []int{2, 3}))
	expect(t, "Blame with the loan 4 and Wrong 2", blame(both), sets([]int{2, 3}, []int{2, 3}))
	expect(t, "People", people(c), sets(nil, []int{0, 1}))
	expect(t, "People with the loan 4 and Wrong 2", people(both), sets([]int{0, 1}, []int{0, 1}))
	expect(t, "Misplaced", misplaced(c), told(0, 1))
	expect(t, "Misplaced with the loan 4 and Wrong 2", misplaced(both), told(2, 2))
	expect(t, "Next", next(c), told(3, 1))
	expect(t, "Next with the loan 4 and Wrong 2", next(both), told(0, 1))
}

// The first loan that cannot be is told; if there is none, there is a truth.
func TestCheck(t *testing.T) {
	for what, x := range map[string]struct {
		c    api.Cabinet
		want outcome
	}{
		"nothing":                               {cabinet(1, 0, 0), failed(api.ErrNone)},
		"no loans":                              {cabinet(6, 5, 0), failed(api.ErrNone)},
		"taken once":                            {cabinet(2, 1, 0, take(0, 0)), failed(api.ErrNone)},
		"taken twice":                           {cabinet(2, 1, 12, take(0, 0), take(1, 0)), told(1)},
		"taken twice by one person":             {cabinet(2, 1, 12, take(3, 0), take(3, 0)), told(1)},
		"put back at first":                     {cabinet(2, 1, 12, back(0, 0)), told(0)},
		"put back twice":                        {cabinet(2, 1, 12, take(0, 0), back(0, 0), back(0, 0)), told(2)},
		"put back by another person":            {cabinet(2, 1, 0, take(0, 0), back(1, 0)), failed(api.ErrNone)},
		"taken again":                           {cabinet(2, 1, 0, take(0, 0), back(0, 0), take(1, 0)), failed(api.ErrNone)},
		"taken twice, then put back":            {cabinet(2, 1, 12, take(0, 0), take(0, 0), back(0, 0)), told(1)},
		"another card is put back":              {cabinet(2, 2, 12, take(0, 0), back(0, 1)), told(1)},
		"a look at what is there":               {cabinet(2, 1, 0, look(0, 0)), failed(api.ErrNone)},
		"a look at what is not there":           {cabinet(2, 1, 12, look(1, 0)), told(0)},
		"a look at another card":                {cabinet(2, 2, 12, look(0, 1)), told(0)},
		"a look at an empty slot":               {cabinet(2, 1, 0, look(1, api.NoCard)), failed(api.ErrNone)},
		"a look into a full slot that is empty": {cabinet(2, 1, 12, look(0, api.NoCard)), told(0)},
		"a look at a card that is out":          {cabinet(2, 1, 12, take(0, 0), look(0, 0)), told(1)},
		"a look into the slot of what is out":   {cabinet(2, 1, 0, take(0, 0), look(0, api.NoCard)), failed(api.ErrNone)},
		"no card is in any slot":                {cabinet(2, 0, 0, look(0, api.NoCard), look(1, api.NoCard)), failed(api.ErrNone)},
		"it must be wrong":                      {cabinet(2, 1, 0, take(0, 0), back(0, 0), look(1, 0)), told(2)},
		"it must be wrong, and can be":          {cabinet(2, 1, 1, take(0, 0), back(0, 0), look(1, 0)), failed(api.ErrNone)},
		"it was not put back right":             {cabinet(3, 1, 0, take(0, 0), back(0, 0), look(0, api.NoCard)), told(2)},
		"it is nowhere":                         {cabinet(2, 1, 1, take(0, 0), back(0, 0), look(0, api.NoCard), look(1, api.NoCard)), told(3)},
		"it is in two slots":                    {cabinet(3, 1, 1, take(0, 0), back(0, 0), look(2, 0), look(1, 0), look(2, 0)), told(3)},
		"two looks, the same":                   {cabinet(3, 1, 1, take(0, 0), back(0, 0), look(2, 0), look(2, 0)), failed(api.ErrNone)},
		"it is not moved without a loan":        {cabinet(2, 1, 12, look(0, 0), look(1, 0)), told(1)},
		"one card wrong twice":                  {cabinet(2, 1, 1, take(0, 0), back(0, 0), look(1, 0), take(0, 0), back(0, 0), look(1, 0)), told(5)},
		"one card wrong twice, and can be":      {cabinet(2, 1, 2, take(0, 0), back(0, 0), look(1, 0), take(0, 0), back(0, 0), look(1, 0)), failed(api.ErrNone)},
		"wrong, and then right":                 {cabinet(2, 1, 1, take(0, 0), back(0, 0), look(1, 0), take(0, 0), back(0, 0), look(0, 0)), failed(api.ErrNone)},
		"right, and not moved since":            {cabinet(2, 1, 1, take(0, 0), back(0, 0), look(0, 0), look(1, 0)), told(3)},
		"no room at home":                       {cabinet(2, 2, 1, take(0, 0), take(0, 1), back(0, 0), look(1, 0), back(0, 1)), told(4)},
		"no room at home, and can be":           {cabinet(2, 2, 2, take(0, 0), take(0, 1), back(0, 0), look(1, 0), back(0, 1)), failed(api.ErrNone)},
		"one slot alone":                        {cabinet(1, 1, 0, take(0, 0), back(0, 0), take(0, 0), back(0, 0), look(0, 0)), failed(api.ErrNone)},
		"wrong in one slot alone":               {cabinet(1, 1, 12, take(0, 0), back(0, 0), look(0, api.NoCard)), told(2)},
		"the last of the most loans":            {cabinet(6, 5, 12, take(0, 0), take(0, 1), take(0, 2), take(0, 3), take(0, 4), back(0, 4), back(0, 3), back(0, 2), back(0, 1), back(0, 0), take(0, 3), take(0, 3)), told(11)},
	} {
		expect(t, what, check(x.c), x.want)
		if x.want.e == api.OK {
			for name, got := range everything(x.c, 0, 0) {
				if name != "Check" && name != "Wrongs" {
					expect(t, what+": "+name, got, failed(api.ErrNone))
				}
			}
		}
	}
}

// What Wrong says makes no difference to how many cards were put back wrong at least.
func TestWrongs(t *testing.T) {
	for what, x := range map[string]struct {
		c    api.Cabinet
		want outcome
	}{
		"nothing":                 {cabinet(1, 0, 0), told(0)},
		"no looks":                {cabinet(6, 2, 0, take(0, 0), take(0, 1), back(0, 1), back(0, 0)), told(0)},
		"still out":               {cabinet(6, 2, 0, take(0, 0)), told(0)},
		"one is elsewhere":        {cabinet(6, 2, 0, take(0, 0), back(0, 0), look(5, 0)), told(1)},
		"one is not at home":      {cabinet(6, 2, 0, take(0, 0), back(0, 0), look(0, api.NoCard)), told(1)},
		"another one is there":    {cabinet(6, 2, 0, take(0, 0), take(0, 1), back(0, 1), look(0, 1)), told(1)},
		"two are changed":         {cabinet(6, 2, 0, take(0, 0), take(0, 1), back(0, 0), back(0, 1), look(0, 1)), told(2)},
		"one has the other's":     {cabinet(6, 2, 0, take(0, 0), take(0, 1), back(0, 1), look(0, 1), take(0, 1), back(0, 0)), told(1)},
		"one is wrong three time": {cabinet(2, 1, 0, take(0, 0), back(0, 0), look(1, 0), take(0, 0), back(0, 0), look(1, 0), take(0, 0), back(0, 0), look(1, 0)), told(3)},
		"five are wrong":          {cabinet(6, 5, 0, take(0, 0), take(0, 1), take(0, 2), take(0, 3), take(0, 4), back(0, 0), look(1, 0), back(0, 1), back(0, 2), back(0, 3), back(0, 4), look(3, 4)), told(4)},
		"taken twice":             {cabinet(2, 1, 0, take(0, 0), take(0, 0)), failed(api.ErrNone)},
		"nowhere":                 {cabinet(2, 1, 0, take(0, 0), back(0, 0), look(0, api.NoCard), look(1, api.NoCard)), failed(api.ErrNone)},
		"not where it was":        {cabinet(2, 1, 0, look(1, 0)), failed(api.ErrNone)},
	} {
		for wrong := range api.MaxLoans + 1 {
			x.c.Wrong = wrong
			expect(t, fmt.Sprintf("%s, Wrong %d", what, wrong), wrongs(x.c), x.want)
			want := x.want.e == api.OK && wrong >= x.want.number[0]
			expect(t, fmt.Sprintf("%s, Wrong %d: there is a truth", what, wrong), check(x.c).e == api.ErrNone, want)
		}
	}
}

// Where cards can be, and what can be in slots.
func TestWhereCardsAre(t *testing.T) {
	for _, x := range []struct {
		what        string
		c           api.Cabinet
		cards, slot []outcome
	}{
		{"nothing", cabinet(1, 0, 0), nil, []outcome{or()}},
		{"no loans", api.Cabinet{Slots: 4, Homes: []int{3, 1, 0}}, []outcome{only(3), only(1), only(0)}, []outcome{only(2), only(1), or(), only(0)}},
		{"one is out", cabinet(3, 2, 5, take(0, 1)), []outcome{only(0), or()}, []outcome{only(0), or(), or()}},
		{"all are out", cabinet(2, 2, 5, take(0, 1), take(0, 0)), []outcome{or(), or()}, []outcome{or(), or()}},
		{"put back right", cabinet(3, 2, 0, take(0, 1), back(0, 1)), []outcome{only(0), only(1)}, []outcome{only(0), only(1), or()}},
		{"put back, and not where one is", cabinet(3, 2, 1, take(0, 1), back(0, 1)), []outcome{only(0), only(1, 2)}, []outcome{only(0), or(1), or(1)}},
		{"put back where there is one place", cabinet(2, 2, 9, take(0, 1), back(0, 1)), []outcome{only(0), only(1)}, []outcome{only(0), only(1)}},
		{"two, of which one can be wrong", cabinet(3, 2, 1, take(0, 0), take(0, 1), back(0, 0), back(0, 1)), []outcome{only(0, 2), only(1, 2)}, []outcome{or(0), or(1), or(0, 1)}},
		{"two, both can be wrong", cabinet(3, 2, 2, take(0, 0), take(0, 1), back(0, 0), back(0, 1)), []outcome{only(0, 1, 2), only(0, 1, 2)}, []outcome{or(0, 1), or(0, 1), or(0, 1)}},
		{"two, and one is seen", cabinet(3, 2, 2, take(0, 0), take(0, 1), back(0, 0), back(0, 1), look(2, 1)), []outcome{only(0, 1), only(2)}, []outcome{or(0), or(0), only(1)}},
		{"one is seen, and then taken", cabinet(3, 2, 2, take(0, 0), take(0, 1), back(0, 0), back(0, 1), look(2, 1), take(0, 1)), []outcome{only(0, 1), or()}, []outcome{or(0), or(0), or()}},
		{"no card is seen", cabinet(3, 2, 2, take(0, 0), take(0, 1), back(0, 0), back(0, 1), look(2, api.NoCard)), []outcome{only(0, 1), only(0, 1)}, []outcome{only(0, 1), only(0, 1), or()}},
		{"seen after it was wrong once", cabinet(3, 1, 1, take(0, 0), back(0, 0), look(2, 0), take(0, 0), back(0, 0)), []outcome{only(0)}, []outcome{only(0), or(), or()}},
		{"only homes are changed", api.Cabinet{Slots: 3, Homes: []int{2, 0}, Wrong: 1, Loans: []api.Loan{take(0, 0), back(0, 0)}}, []outcome{only(1, 2), only(0)}, []outcome{only(1), or(0), or(0)}},
		{"the most", cabinet(6, 5, 12, take(0, 0), take(0, 1), take(0, 2), take(0, 3), take(0, 4), back(0, 4), back(0, 3), back(0, 2), back(0, 1), back(0, 0)),
			slices.Repeat([]outcome{only(0, 1, 2, 3, 4, 5)}, 5), slices.Repeat([]outcome{or(0, 1, 2, 3, 4)}, 6)},
	} {
		for card, want := range x.cards {
			expect(t, fmt.Sprintf("%s: the card %d", x.what, card), where(x.c, card), want)
		}
		for k, want := range x.slot {
			expect(t, fmt.Sprintf("%s: the slot %d", x.what, k), slot(x.c, k), want)
		}
	}
}

// Who put cards back wrong, and how many of them are in a wrong slot now.
func TestBlame(t *testing.T) {
	for _, x := range []struct {
		what                     string
		c                        api.Cabinet
		blame, people, misplaced outcome
	}{
		{"nothing", cabinet(1, 0, 0), told(), told(), told()},
		{"no loans", cabinet(6, 5, 12), told(), told(), told()},
		{"nothing was wrong", sample(0), told(), told(), told(0, 0)},
		{"takes and looks are not wrong", cabinet(3, 2, 12, take(7, 1), look(0, 0), look(1, api.NoCard)), told(), told(), told()},
		{"one can be wrong", cabinet(3, 2, 1, take(6, 1), back(7, 1)), sets(nil, []int{1}), sets(nil, []int{7}), told(0, 1)},
		{"one is wrong", cabinet(3, 2, 1, take(6, 1), back(7, 1), look(2, 1)), sets([]int{1}, []int{1}), sets([]int{7}, []int{7}), told(1, 1)},
		{"one was wrong, and is right now", cabinet(3, 2, 1, take(6, 1), back(7, 1), look(2, 1), take(5, 1), back(4, 1)), sets([]int{1}, []int{1}), sets([]int{7}, []int{7}), told(0, 0)},
		{"one was wrong, and is out now", cabinet(3, 2, 1, take(6, 1), back(7, 1), look(2, 1), take(5, 1)), sets([]int{1}, []int{1}), sets([]int{7}, []int{7}), told(0, 0)},
		{"wrong twice, and one is misplaced", cabinet(3, 1, 2, take(0, 0), back(1, 0), look(2, 0), take(0, 0), back(2, 0), look(1, 0)), sets([]int{1, 4}, []int{1, 4}), sets([]int{1, 2}, []int{1, 2}), told(1, 1)},
		{"all are misplaced", cabinet(2, 2, 3, take(0, 0), take(0, 1), back(0, 0), back(0, 1), look(1, 0)), sets([]int{2, 3}, []int{2, 3}), sets([]int{0}, []int{0}), told(2, 2)},
		{"one of two loans, but one person", cabinet(4, 2, 1, take(0, 0), take(0, 1), back(3, 0), back(3, 1), take(0, 0), take(0, 1), look(0, api.NoCard)), sets(nil, []int{2, 3}), sets(nil, []int{3}), told(0, 0)},
		{"the last of two loans", cabinet(3, 1, 12, take(0, 0), back(3, 0), take(0, 0), back(3, 0), look(0, api.NoCard)), sets([]int{3}, []int{1, 3}), sets([]int{3}, []int{3}), told(1, 1)},
		{"one surely, and another one perhaps", cabinet(3, 2, 12, take(0, 0), take(0, 1), back(3, 0), back(3, 1), take(1, 1), look(0, api.NoCard)), sets([]int{2}, []int{2, 3}), sets([]int{3}, []int{3}), told(1, 1)},
		{"either of two persons", cabinet(3, 1, 1, take(0, 0), back(1, 0), take(0, 0), back(2, 0)), sets(nil, []int{1, 3}), sets(nil, []int{1, 2}), told(0, 1)},
		{"the most can be wrong", cabinet(6, 5, 12, take(0, 0), take(0, 1), take(0, 2), take(0, 3), take(0, 4), back(0, 4), back(1, 3), back(2, 2), back(3, 1), back(4, 0)), sets(nil, []int{5, 6, 7, 8, 9}), sets(nil, []int{0, 1, 2, 3, 4}), told(0, 5)},
		{"a person of each kind of loans", cabinet(3, 1, 1, api.Loan{Kind: api.LendLook, Card: 0, Person: 3}, take(3, 0), back(4, 0), api.Loan{Kind: api.LendLook, Card: 0, Person: 3, Slot: 1}), sets([]int{2}, []int{2}), sets([]int{4}, []int{4}), told(1, 1)},
	} {
		expect(t, "Blame: "+x.what, blame(x.c), x.blame)
		expect(t, "People: "+x.what, people(x.c), x.people)
		expect(t, "Misplaced: "+x.what, misplaced(x.c), x.misplaced)
	}
}

// A person can have put a card back wrong in each truth, though each of the loans was right in some truth.
func TestOnePersonOfTwoLoans(t *testing.T) {
	c := cabinet(4, 3, 2, take(0, 0), take(0, 1), take(0, 2), back(4, 2), look(2, api.NoCard), look(3, api.NoCard), back(3, 0), back(3, 1))
	expect(t, "Blame", blame(c), sets([]int{3}, []int{3, 6, 7}))
	expect(t, "People, if one put both back", people(c), sets([]int{3, 4}, []int{3, 4}))
	c.Loans[7].Person = 5
	expect(t, "People, if two put them back", people(c), sets([]int{4}, []int{3, 4, 5}))
	c.Loans[7].Person = 4
	expect(t, "People, if the same two put three back", people(c), sets([]int{4}, []int{3, 4}))
}

// The slot is told that leaves the fewest states, of several the first one.
func TestNext(t *testing.T) {
	for what, x := range map[string]struct {
		c    api.Cabinet
		want outcome
	}{
		"nothing":                        {cabinet(1, 0, 0), failed(api.ErrNone)},
		"no loans":                       {cabinet(6, 5, 12), failed(api.ErrNone)},
		"one is out":                     {cabinet(6, 5, 12, take(0, 3)), failed(api.ErrNone)},
		"all is right":                   {sample(0), failed(api.ErrNone)},
		"one slot alone":                 {cabinet(1, 1, 12, take(0, 0), back(0, 0)), failed(api.ErrNone)},
		"some truths, but one state":     {cabinet(2, 1, 1, take(0, 0), back(0, 0), take(0, 0)), failed(api.ErrNone)},
		"one was seen":                   {cabinet(4, 1, 1, take(0, 0), back(0, 0), look(3, 0)), failed(api.ErrNone)},
		"of two slots the first":         {cabinet(2, 1, 1, take(0, 0), back(0, 0)), told(0, 1)},
		"of three slots the first":       {cabinet(3, 1, 1, take(0, 0), back(0, 0)), told(0, 2)},
		"of six slots the first":         {cabinet(6, 1, 1, take(0, 0), back(0, 0)), told(0, 5)},
		"the slot 0 is known":            {cabinet(3, 2, 1, take(0, 1), back(0, 1)), told(1, 1)},
		"slots 0 and 1 are known":        {cabinet(4, 3, 1, take(0, 2), back(0, 2)), told(2, 1)},
		"what is full tells less":        {cabinet(3, 2, 1, take(0, 0), take(0, 1), back(0, 0), back(0, 1)), told(2, 1)},
		"two, both can be wrong":         {cabinet(3, 2, 2, take(0, 0), take(0, 1), back(0, 0), back(0, 1)), told(0, 2)},
		"one of two places was seen":     {cabinet(3, 1, 1, take(0, 0), back(0, 0), look(1, api.NoCard)), told(0, 1)},
		"the states that a card is out":  {cabinet(3, 2, 2, take(0, 0), take(0, 1), back(0, 0)), told(0, 2)},
		"states are counted, not truths": {cabinet(3, 1, 2, take(0, 0), back(0, 0), take(0, 0), back(0, 0)), told(0, 2)},
		"the most states":                {cabinet(6, 5, 12, take(0, 0), take(0, 1), take(0, 2), take(0, 3), take(0, 4), back(0, 4), back(0, 3), back(0, 2), back(0, 1), back(0, 0)), told(0, 120)},
	} {
		expect(t, what, next(x.c), x.want)
	}
}

// Cabinets that are not valid have ErrArg with each function, before any other error.
func TestCabinetsThatAreNotValid(t *testing.T) {
	for what, change := range faults() {
		for _, more := range [][]api.Loan{nil, {fourth()}} { // with a truth, and without
			c := sample(1, more...)
			change(&c)
			for _, number := range []int{0, -1, 1 << 20} {
				for name, got := range everything(c, number, number) {
					expect(t, what+": "+name, got, failed(api.ErrArg))
				}
			}
		}
	}
}

func faults() map[string]func(*api.Cabinet) {
	fault := map[string]func(*api.Cabinet){
		"6 cards":           func(c *api.Cabinet) { c.Slots, c.Homes = 6, []int{0, 1, 2, 3, 4, 5} },
		"many cards":        func(c *api.Cabinet) { c.Homes = make([]int, 99) },
		"two of one slot":   func(c *api.Cabinet) { c.Homes = []int{0, 1, 0} },
		"two of the last":   func(c *api.Cabinet) { c.Homes = []int{0, 3, 3} },
		"too few slots":     func(c *api.Cabinet) { c.Slots = 2 },
		"too many cards":    func(c *api.Cabinet) { c.Homes = []int{0, 1, 2, 3, 0} },
		"13 loans":          func(c *api.Cabinet) { c.Loans = slices.Repeat([]api.Loan{look(2, 2)}, 13) },
		"many loans":        func(c *api.Cabinet) { c.Loans = make([]api.Loan, 999) },
		"no cards, a take":  func(c *api.Cabinet) { c.Homes, c.Loans = nil, []api.Loan{take(0, 0)} },
		"no cards, a back":  func(c *api.Cabinet) { c.Homes, c.Loans = nil, []api.Loan{back(0, 0)} },
		"no cards, a look":  func(c *api.Cabinet) { c.Homes, c.Loans = nil, []api.Loan{look(0, 0)} },
		"a wrong last loan": func(c *api.Cabinet) { c.Loans = append(c.Loans, take(0, 3)) },
	}
	for _, n := range []int{-1, 0, 7, 8, math.MinInt, math.MaxInt} {
		fault[fmt.Sprint("Slots ", n)] = func(c *api.Cabinet) { c.Slots = n }
	}
	for _, n := range []int{-1, 4, 5, 6, 99, math.MinInt, math.MaxInt} {
		fault[fmt.Sprint("the home ", n)] = func(c *api.Cabinet) { c.Homes[1] = n }
	}
	for _, n := range []int{-1, 13, 14, math.MinInt, math.MaxInt} {
		fault[fmt.Sprint("Wrong ", n)] = func(c *api.Cabinet) { c.Wrong = n }
	}
	for _, n := range []int{-1, 3, 4, 99, math.MinInt, math.MaxInt} {
		fault[fmt.Sprint("the kind ", n)] = func(c *api.Cabinet) { c.Loans[0] = api.Loan{Kind: n} }
		fault[fmt.Sprint("the card that is taken ", n)] = func(c *api.Cabinet) { c.Loans[0].Card = n }
		fault[fmt.Sprint("the card that is put back ", n)] = func(c *api.Cabinet) { c.Loans[3].Card = n }
		if n != api.NoCard {
			fault[fmt.Sprint("the card that is seen ", n)] = func(c *api.Cabinet) { c.Loans[3] = look(0, n) }
		}
	}
	fault["the card that is seen -2"] = func(c *api.Cabinet) { c.Loans[3] = look(0, -2) }
	for _, n := range []int{-1, 8, 9, math.MinInt, math.MaxInt} {
		fault[fmt.Sprint("the person who takes ", n)] = func(c *api.Cabinet) { c.Loans[1].Person = n }
		fault[fmt.Sprint("the person who puts back ", n)] = func(c *api.Cabinet) { c.Loans[2].Person = n }
	}
	for _, n := range []int{-1, 4, 5, 6, math.MinInt, math.MaxInt} {
		fault[fmt.Sprint("the slot ", n)] = func(c *api.Cabinet) { c.Loans[0] = look(n, 0) }
		fault[fmt.Sprint("the slot of no card ", n)] = func(c *api.Cabinet) { c.Loans[0] = look(n, api.NoCard) }
	}
	return fault
}

// Cabinets that are as large as they can be are valid; what a kind does not use is not looked at.
func TestCabinetsThatAreJustValid(t *testing.T) {
	c := api.Cabinet{Slots: 6, Homes: []int{5, 4, 3, 2, 0}, Wrong: 12}
	for card := range 5 {
		c.Loans = append(c.Loans, take(7, card), back(7, card))
	}
	c.Loans = append(c.Loans, look(5, api.NoCard), look(0, 4))
	expect(t, "Check", check(c), failed(api.ErrNone))
	expect(t, "Wrongs", wrongs(c), told(1))
	expect(t, "People", people(c), sets([]int{7}, []int{7}))
	for name, got := range everything(c, 4, 5) {
		if name != "Check" && name != "Next" {
			expect(t, name+" has no error", got.e, api.OK)
		}
	}
	c = cabinet(1, 1, 0)
	for _, n := range []int{math.MinInt, -1, 0, 7, 8, math.MaxInt} {
		c.Loans = []api.Loan{{Kind: api.LendLook, Person: n}, {Kind: api.LendTake, Slot: n}, {Kind: api.LendBack, Slot: n}}
		expect(t, fmt.Sprint("what is not used is ", n), check(c), failed(api.ErrNone))
	}
}

// A card, and a slot, are of the cabinet, also if there is no truth.
func TestNumbersOfNone(t *testing.T) {
	for _, c := range []api.Cabinet{sample(1), sample(1, fourth())} {
		for _, n := range []int{-1, 4, 5, 6, 99, math.MinInt, math.MaxInt} {
			expect(t, fmt.Sprint("Where of ", n), where(c, n), failed(api.ErrRange))
			expect(t, fmt.Sprint("Slot of ", n), slot(c, n), failed(api.ErrRange))
		}
		expect(t, "Where of no card", where(c, 3), failed(api.ErrRange))
	}
	expect(t, "the last card", where(sample(1), 2).e, api.OK)
	expect(t, "the last slot", slot(sample(1), 3).e, api.OK)
	expect(t, "the last card, without a truth", where(sample(1, fourth()), 2), failed(api.ErrNone))
	expect(t, "the last slot, without a truth", slot(sample(1, fourth()), 3), failed(api.ErrNone))
	expect(t, "Where without cards", where(cabinet(6, 0, 0), 0), failed(api.ErrRange))
}

// A nil list and an empty one are the same value.
func TestNilAndEmpty(t *testing.T) {
	for what, both := range map[string][2]api.Cabinet{
		"cards": {{Slots: 3}, {Slots: 3, Homes: []int{}}},
		"loans": {{Slots: 3, Homes: []int{2}}, {Slots: 3, Homes: []int{2}, Loans: []api.Loan{}}},
	} {
		for name, want := range everything(both[0], 0, 0) {
			expect(t, what+": "+name, everything(both[1], 0, 0)[name], want)
		}
	}
	for name, got := range everything(api.Cabinet{}, 0, 0) {
		expect(t, "nothing: "+name, got, failed(api.ErrArg))
	}
}
