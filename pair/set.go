package pair

import (
	"math/bits"

	"pairworks/api"
)

// set is a set of things, by bits.
type set int

func (s set) with(thing int) set { return s | 1<<thing }

func (s set) has(thing int) bool { return s&(1<<thing) != 0 }

func (s set) many() int { return bits.OnesCount(uint(s)) }

// rank tells how good a set of things that moved is.
type rank struct {
	many  int
	moved set
}

// before returns whether a set is better than another one: it has fewer things, or as many and the lesser number.
func (r rank) before(other rank) bool {
	if r.many != other.many {
		return r.many < other.many
	}
	return r.moved < other.moved
}

// best is the best set of things that moved, and the powers with which all others stand still.
type best struct {
	rank
	power api.Span
}
