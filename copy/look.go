package copy

import (
	"slices"

	"pairworks/api"
)

// looked is prints that are valid and looked at.
type looked struct{ api.Prints }

func valid(p api.Prints) bool {
	return len(p.Cards) <= api.MaxPrints && !slices.ContainsFunc(p.Cards, isWrong) && isSize(p.Less) && isSize(p.Loss)
}

func isWrong(card api.Print) bool {
	return !isSize(card.Size) || !isSize(card.Wide) || card.Marks < 0 || card.Marks >= 1<<api.MaxDust
}

func isSize(s api.Span) bool { return 0 <= s.Lo && s.Lo <= s.Hi && s.Hi <= api.MaxSize }

// areCards returns whether a list has cards of so many, each at most once.
func areCards(list []int, many int) bool {
	for k, card := range list {
		if card < 0 || card >= many || slices.Contains(list[:k], card) {
			return false
		}
	}
	return true
}

// loss is something of which a copy has less: what a card has of it, and by how much a copy has less.
type loss struct {
	of func(card api.Print) api.Span
	by api.Span
}

// losses returns all that a copy loses.
func (l looked) losses() []loss {
	return []loss{
		{func(card api.Print) api.Span { return card.Size }, l.Less},
		{func(card api.Print) api.Span { return card.Wide }, l.Loss},
	}
}

// back returns what a card can have of it if a copy of it has this.
func (o loss) back(s api.Span) api.Span {
	return api.Span{Lo: s.Lo + o.by.Lo, Hi: s.Hi + o.by.Hi}
}
