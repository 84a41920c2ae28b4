package mount

import (
	"testing"

	"pairworks/api"
)

// Each trimming is yielded once, those with fewer steps first.
func TestTrimmings(t *testing.T) {
	for most, want := range []int{1, 6, 19, 44, 85} {
		l := looked{Card: api.Card{Cuts: most}}
		known := map[api.Cuts]bool{}
		before := 0
		for cuts := range l.trimmings() {
			steps := rankOf(cuts).steps
			if known[cuts] || steps < before || !isTrimming(cuts, most) {
				t.Errorf("%v is yielded with %d cuts, behind %d steps", cuts, most, before)
			}
			known[cuts], before = true, steps
		}
		if len(known) != want {
			t.Errorf("with %d cuts there are %d trimmings, want %d", most, len(known), want)
		}
	}
}

// A trimming is better by its steps, then by its LeftLeft, LeftRight and RightLeft, in whichever order trimmings are tried.
func TestRanks(t *testing.T) {
	rising := []api.Cuts{
		{},
		{LeftRight: 1, RightRight: 1},
		{LeftRight: 1, RightLeft: 1},
		{LeftLeft: 1, RightRight: 1},
		{LeftLeft: 1, RightLeft: 1},
		{LeftLeft: 1, LeftRight: 1, RightRight: 2},
		{LeftLeft: 1, LeftRight: 1, RightLeft: 1, RightRight: 1},
		{LeftLeft: 2, RightRight: 2},
		{LeftRight: 3, RightRight: 3},
	}
	for a, one := range rising {
		for b, other := range rising {
			if got := rankOf(one).before(rankOf(other)); got != (a < b) {
				t.Errorf("%v is better than %v: %v", one, other, got)
			}
		}
	}
	if (rank{steps: 4, cuts: api.Cuts{LeftRight: 1}}).before(rank{steps: 4}) || !(rank{steps: 4}).before(rank{steps: 4, cuts: api.Cuts{LeftRight: 1}}) {
		t.Error("LeftRight is not looked at")
	}
}

// An iterator that is asked for no more yields no more.
func TestIteratorsEnd(t *testing.T) {
	l := looked{
		Card: api.Card{Cuts: 2, Pair: api.Pair{Things: make([]api.Thing, 5)}},
		seen: map[int]thing{1: {}, 3: {}, 4: {}},
	}
	var things []int
	for k := range l.things() {
		things = append(things, k)
		if k == 3 {
			break
		}
	}
	if len(things) != 2 || things[0] != 1 || things[1] != 3 {
		t.Errorf("the things are %v", things)
	}
	many := 0
	for range l.trimmings() {
		many++
		if many == 7 {
			break
		}
	}
	for left, right := range l.splits(3) {
		if left != 1 || right != 2 {
			t.Errorf("3 steps are first split to %d and %d", left, right)
		}
		break
	}
}
