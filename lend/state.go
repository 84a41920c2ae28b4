package lend

import (
	"iter"
	"slices"

	"pairworks/api"
)

// none is no card in a slot, and no slot of a card that is out.
const none = api.NoCard

// state is in which slot each card is. Numbers that no card has are those of cards that are always out.
type state [api.MaxLent]int

// cardIn returns the card in a slot, or none.
func (s state) cardIn(slot int) int { return slices.Index(s[:], slot) }

// states is the states that can be, each with how many cards were put back wrong at least.
type states map[state]int

// begun returns the state before the first loan.
func (l looked) begun() states {
	var s state
	for k := range s {
		s[k] = none
	}
	copy(s[:], l.Homes)
	return states{s: 0}
}

// upTo returns the states after so many loans of truths that do what they must.
func (l looked) upTo(loans int, m must) states {
	all := l.begun()
	for number := range loans {
		all = l.after(all, number, m)
	}
	return all
}

// after returns the states that can follow others with the loan of a number.
func (l looked) after(before states, number int, m must) states {
	loan := l.Loans[number]
	follow := kinds()[loan.Kind].follow
	all := states{}
	for s, fewest := range before {
		for next, wrong := range follow(l, s, loan) {
			many := fewest + wrong
			known, found := all[next]
			if many <= l.Wrong && (!found || many < known) && m.allows(number, loan, wrong > 0) {
				all[next] = many
			}
		}
	}
	return all
}

// taken yields the state in which a card is taken out, if it is in a slot.
func (l looked) taken(s state, loan api.Loan) iter.Seq2[state, int] {
	return func(yield func(state, int) bool) {
		if s[loan.Card] != none {
			s[loan.Card] = none
			yield(s, 0)
		}
	}
}

// putBack yields the states in which a card that is out is put into some slot that is not full.
func (l looked) putBack(s state, loan api.Loan) iter.Seq2[state, int] {
	return func(yield func(state, int) bool) {
		if s[loan.Card] != none {
			return
		}
	slots:
		for slot := range l.Slots {
			for _, full := range s {
				if full == slot {
					continue slots
				}
			}
			wrong := 0
			if slot != l.Homes[loan.Card] {
				wrong = 1
			}
			next := s
			next[loan.Card] = slot
			if !yield(next, wrong) {
				return
			}
		}
	}
}

// seen yields the same state, if the slot contains what was seen in it.
func (l looked) seen(s state, loan api.Loan) iter.Seq2[state, int] {
	return func(yield func(state, int) bool) {
		if s.cardIn(loan.Slot) == loan.Card {
			yield(s, 0)
		}
	}
}
