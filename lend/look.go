package lend

import (
	"iter"

	"pairworks/api"
)

// looked is a cabinet that is looked at.
type looked struct{ api.Cabinet }

// kind is a kind of loans: which of them are valid, and which states can follow one of them, each with how many cards it puts back wrong.
type kind struct {
	valid  func(looked, api.Loan) bool
	follow func(looked, state, api.Loan) iter.Seq2[state, int]
}

func kinds() []kind {
	return []kind{
		api.LendTake: {looked.validByPerson, looked.taken},
		api.LendBack: {looked.validByPerson, looked.putBack},
		api.LendLook: {looked.validLook, looked.seen},
	}
}

func (l looked) valid() bool {
	return l.Slots >= 1 && l.Slots <= api.MaxLendSlots && len(l.Homes) <= api.MaxLent && l.validHomes() &&
		l.Wrong >= 0 && l.Wrong <= api.MaxLoans && len(l.Loans) <= api.MaxLoans && l.validLoans()
}

// validHomes returns whether each card has a slot, and none that another one has.
func (l looked) validHomes() bool {
	var homes set
	for _, home := range l.Homes {
		if !isOne(home, l.Slots) || homes.has(home) {
			return false
		}
		homes = join(homes, only(home))
	}
	return true
}

func (l looked) validLoans() bool {
	all := kinds()
	for _, loan := range l.Loans {
		if !isOne(loan.Kind, len(all)) || !all[loan.Kind].valid(l, loan) {
			return false
		}
	}
	return true
}

// validByPerson returns whether a person did this with a card.
func (l looked) validByPerson(loan api.Loan) bool {
	return isOne(loan.Card, len(l.Homes)) && isOne(loan.Person, api.MaxPeople)
}

func (l looked) validLook(loan api.Loan) bool {
	return isOne(loan.Slot, l.Slots) && (loan.Card == api.NoCard || isOne(loan.Card, len(l.Homes)))
}

// isOne returns whether this is the number of one of so many.
func isOne(n, many int) bool { return 0 <= n && n < many }
