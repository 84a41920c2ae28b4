package copy

import (
	"iter"
	"slices"

	"pairworks/api"
)

// ways yields all ways, in lexicographic order.
func (l looked) ways() iter.Seq[tree] {
	return func(yield func(tree) bool) {
		var goOn func(t tree, card int) bool
		goOn = func(t tree, card int) bool {
			if card == len(l.Cards) {
				return yield(t)
			}
			if !goOn(t, card+1) {
				return false
			}
			for from := range l.Cards {
				if t.fits(card, from) && !goOn(t.copied(card, from), card+1) {
					return false
				}
			}
			return true
		}
		goOn(l.apart(), 0)
	}
}

// count returns how many ways there are.
func (l looked) count() (many int) {
	for range l.ways() {
		many++
	}
	return many
}

// parents is the set of the cards, by bits, of which a card can be a copy, and whether it can be an original.
type parents struct {
	cards    int
	original bool
}

func (l looked) parents(card int) (told parents) {
	for t := range l.ways() {
		if from := t.from[card]; from == api.NoCard {
			told.original = true
		} else {
			told.cards |= 1 << from
		}
	}
	return told
}

// fewest returns the first way with the fewest originals.
func (l looked) fewest() tree {
	return least(tree.originals, l.apart(), slices.Collect(l.ways())...)
}

// isFrom returns whether a card comes from another one: in each way with the fewest originals, in some, or in none.
func (l looked) isFrom(card, from int) int {
	fewest := l.fewest().originals()
	ways, comes := 0, 0
	for t := range l.ways() {
		if t.originals() != fewest {
			continue
		}
		ways++
		if t.comes(card, from) {
			comes++
		}
	}
	switch comes {
	case 0:
		return api.CopyNever
	case ways:
		return api.CopyAlways
	}
	return api.CopyPerhaps
}
