package paint

import (
	"math/bits"

	"pairworks/api"
)

// set is a set of marks of one row, by bits.
type set int

// below returns the set of all marks of a row of so many.
func below(many int) set { return 1<<many - 1 }

func (s set) has(mark int) bool { return s>>mark&1 != 0 }

// both returns what two sets have in common.
func (s set) both(other set) set { return s & other }

// isPartOf returns whether another set has all that a set has.
func (s set) isPartOf(other set) bool { return s&^other == 0 }

// join returns all that is in any of the sets.
func join(sets ...set) set {
	var all set
	for _, s := range sets {
		all |= s
	}
	return all
}

// The rows of a canvas.
const (
	leftRow = iota
	rightRow
	allRows
)

// painted is the marks that were painted, by rows.
type painted [allRows]set

// sideOf returns the picture of a row.
func sideOf(row int) int { return api.PaintLeft << row }

func (p painted) is(other painted) bool { return p == other }

// side returns which picture was painted; not both were.
func (p painted) side() int {
	for row, marks := range p {
		if marks != 0 {
			return sideOf(row)
		}
	}
	return api.PaintNone
}

// marks returns the marks of the row that was painted; not both were.
func (p painted) marks() set { return join(p[leftRow], p[rightRow]) }

func (p painted) many() int { return bits.OnesCount(uint(p.marks())) }

// measure is something by which cases are ordered: where it is less, the case comes first.
type measure struct{ of func(p painted) int }

// measures returns all by which cases are ordered; each one counts where those before it are the same.
func measures() []measure {
	return []measure{
		{painted.many},
		{painted.side},
		{func(p painted) int { return int(p.marks()) }},
	}
}

// isBefore returns whether a case comes before another one.
func (p painted) isBefore(other painted) bool {
	for _, m := range measures() {
		if one, two := m.of(p), m.of(other); one != two {
			return one < two
		}
	}
	return false
}
