package copy

import (
	"slices"

	"pairworks/api"
)

// tree is the card of which each card is a copy, or that it is an original; none comes from itself.
type tree struct {
	looked
	from [api.MaxPrints]int // by cards
}

// apart returns cards that are all originals.
func (l looked) apart() tree {
	t := tree{looked: l}
	for card := range t.from {
		t.from[card] = api.NoCard
	}
	return t
}

// copied returns a tree in which a card is a copy of another one.
func (t tree) copied(card, from int) tree {
	t.from[card] = from
	return t
}

// fits returns whether a card that is an original can be a copy of another one, and all others what they are.
func (t tree) fits(card, from int) bool {
	hasMarks := t.Cards[from].Marks&^t.Cards[card].Marks == 0
	return card != from && !t.comes(from, card) && hasMarks && t.copied(card, from).holds()
}

// holds returns whether in some truth each copy has lost what a copy loses.
func (t tree) holds() bool {
	for _, o := range t.losses() {
		// Each card is looked at, as a copy that can have nothing need not show in what it was copied from.
		for card := range t.Cards {
			if s := t.has(card, o); s.Lo > s.Hi {
				return false
			}
		}
	}
	return true
}

// has returns what a card can have of something that copies lose, as far as those that come from it tell.
func (t tree) has(card int, o loss) api.Span {
	s := o.of(t.Cards[card])
	for other := range t.Cards {
		if t.from[other] == card {
			// Each copy loses for itself, so that no copy of a card hinders another one.
			before := o.back(t.has(other, o))
			s = api.Span{Lo: max(s.Lo, before.Lo), Hi: min(s.Hi, before.Hi)}
		}
	}
	return s
}

// comes returns whether a card comes from another one.
func (t tree) comes(card, from int) bool {
	for at := t.from[card]; at != api.NoCard; at = t.from[at] {
		if at == from {
			return true
		}
	}
	return false
}

// list returns the card of which each card is a copy, or NoCard.
func (t tree) list() []int { return slices.Clone(t.from[:len(t.Cards)]) }

// originals returns how many originals there are.
func (t tree) originals() (many int) {
	for _, from := range t.list() {
		if from == api.NoCard {
			many++
		}
	}
	return many
}
