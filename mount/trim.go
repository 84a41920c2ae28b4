package mount

import (
	"cmp"
	"iter"

	"pairworks/api"
)

// rank tells how good a trimming is.
type rank struct {
	steps int // of all edges together
	cuts  api.Cuts
}

func rankOf(cuts api.Cuts) rank {
	return rank{cuts.LeftLeft + cuts.LeftRight + cuts.RightLeft + cuts.RightRight, cuts}
}

// before returns whether a trimming is better than another one.
func (r rank) before(other rank) bool {
	return cmp.Or(
		cmp.Compare(r.steps, other.steps),
		cmp.Compare(r.cuts.LeftLeft, other.cuts.LeftLeft),
		cmp.Compare(r.cuts.LeftRight, other.cuts.LeftRight),
		cmp.Compare(r.cuts.RightLeft, other.cuts.RightLeft),
	) < 0
}

// leastTrimming returns the best trimming with which nothing hurts, and whether there is one.
func (l looked) leastTrimming() (cuts api.Cuts, found bool) {
	none := rank{steps: 4*l.Cuts + 1} // more than any trimming cuts off
	best := none
search:
	for cuts := range l.trimmings() {
		r := rankOf(cuts)
		switch {
		case r.steps > best.steps:
			break search
		case r.before(best) && l.with(cuts).firstHurt() == unhurt():
			best = r
		}
	}
	return best.cuts, best != none
}

// trimmings yields all trimmings of the card, those with fewer steps first.
func (l looked) trimmings() iter.Seq[api.Cuts] {
	return func(yield func(cuts api.Cuts) bool) {
		for steps := range 2*l.Cuts + 1 {
			for leftLeft, leftRight := range l.splits(steps) {
				for rightLeft, rightRight := range l.splits(steps) {
					if !yield(api.Cuts{LeftLeft: leftLeft, LeftRight: leftRight, RightLeft: rightLeft, RightRight: rightRight}) {
						return
					}
				}
			}
		}
	}
}

// splits yields each way in which a print can lose so many steps at its two edges.
func (l looked) splits(steps int) iter.Seq2[int, int] {
	return func(yield func(left, right int) bool) {
		for left := greatest(0, steps-l.Cuts); left <= least(steps, l.Cuts); left++ {
			if !yield(left, steps-left) {
				return
			}
		}
	}
}
