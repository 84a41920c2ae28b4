package lend

import "pairworks/api"

// must is what a truth must do.
type must interface {
	// allows returns whether a card can be put back wrong, or not, with the loan of a number.
	allows(number int, loan api.Loan, wrong bool) bool
}

// anything must be done by each truth.
type anything struct{}

func (anything) allows(int, api.Loan, bool) bool { return true }

// rightAt is the number of a loan that must not put a card back wrong.
type rightAt int

func (m rightAt) allows(number int, _ api.Loan, wrong bool) bool { return number != int(m) || !wrong }

// wrongAt is the number of a loan that must put a card back wrong.
type wrongAt int

func (m wrongAt) allows(number int, _ api.Loan, wrong bool) bool { return number != int(m) || wrong }

// rightBy is a person who must not put any card back wrong.
type rightBy int

func (m rightBy) allows(_ int, loan api.Loan, wrong bool) bool {
	return loan.Person != int(m) || !wrong
}
