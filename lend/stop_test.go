package lend

import (
	"errors"
	"slices"
	"testing"

	"pairworks/api"
)

// Whatever stops an asking, it is an error with no result, and no panic.
func TestStops(t *testing.T) {
	for _, x := range []struct {
		stop any
		want int
		e    api.Errno
	}{{nil, 7, api.OK}, {api.ErrNone, 0, api.ErrNone}, {errors.New("a panic of another kind"), 0, api.ErrArg}, {"a text", 0, api.ErrArg}} {
		answer := func(looked) int {
			if x.stop != nil {
				panic(x.stop)
			}
			return 7
		}
		if n, e := ask(api.Cabinet{Slots: 1}, answer); n != x.want || e != x.e {
			t.Errorf("%v: %d, error %d, want %d, error %d", x.stop, n, e, x.want, x.e)
		}
	}
}

// Each state that can follow is yielded once; an iterator that is asked for no more yields no more.
func TestStatesThatFollow(t *testing.T) {
	l := looked{api.Cabinet{Slots: 6, Homes: []int{4, 1}}}
	from := state{none, 1, none, none, none}
	slots := []int{0, 2, 3, 4, 5}
	for stop := 1; stop <= len(slots)+1; stop++ {
		var got []int
		for s, wrong := range l.putBack(from, api.Loan{Kind: api.LendBack}) {
			if (wrong == 0) != (s[0] == 4) || wrong > 1 || s[1] != 1 || s[2] != none || from[0] != none {
				t.Errorf("%v follows, of which %d is wrong", s, wrong)
			}
			got = append(got, s[0])
			if len(got) == stop {
				break
			}
		}
		if !slices.Equal(got, slots[:min(stop, len(slots))]) {
			t.Errorf("the first %d slots are %v", stop, got)
		}
	}
	for _, x := range []struct {
		kind, card, slot int
		want             []state
	}{
		{api.LendTake, 0, 0, nil}, {api.LendTake, 1, 0, []state{{none, none, none, none, none}}}, {api.LendBack, 1, 0, nil},
		{api.LendLook, 1, 1, []state{from}}, {api.LendLook, 1, 0, nil}, {api.LendLook, 0, 0, nil}, {api.LendLook, none, 0, []state{from}}, {api.LendLook, none, 1, nil},
	} {
		var got []state
		for s, wrong := range kinds()[x.kind].follow(l, from, api.Loan{Kind: x.kind, Card: x.card, Slot: x.slot}) {
			if wrong != 0 {
				t.Errorf("%+v is wrong", x)
			}
			got = append(got, s)
		}
		if !slices.Equal(got, x.want) {
			t.Errorf("%v follow with %+v", got, x)
		}
	}
}

// Of each state the fewest wrong cards are kept, and no states before are changed.
func TestFewestOfStates(t *testing.T) {
	l := looked{api.Cabinet{Slots: 3, Homes: []int{0}, Wrong: 3, Loans: []api.Loan{{Kind: api.LendBack}, {Kind: api.LendTake}}}}
	isOut := state{none, none, none, none, none}
	before := states{isOut: 2}
	all := l.after(before, 0, anything{})
	if len(all) != 3 || all[state{0, none, none, none, none}] != 2 || all[state{2, none, none, none, none}] != 3 || len(before) != 1 {
		t.Errorf("%v follow after %v", all, before)
	}
	for range 20 { // in any order of states
		if again := l.after(all, 1, anything{}); len(again) != 1 || again[isOut] != 2 {
			t.Errorf("%v follow after %v", again, all)
		}
	}
	l.Wrong = 2
	if all := l.after(before, 0, anything{}); len(all) != 1 || all[state{0, none, none, none, none}] != 2 {
		t.Errorf("%v follow, if two can be wrong", all)
	}
}

func TestWhatMustBe(t *testing.T) {
	loan := api.Loan{Kind: api.LendBack, Person: 5}
	for _, x := range []struct {
		must         must
		right, wrong bool
	}{
		{anything{}, true, true}, {rightAt(3), true, false}, {rightAt(5), true, true}, {wrongAt(3), false, true}, {wrongAt(5), true, true},
		{rightBy(5), true, false}, {rightBy(3), true, true},
	} {
		if x.must.allows(3, loan, false) != x.right || x.must.allows(3, loan, true) != x.wrong {
			t.Errorf("%T %v is wrong", x.must, x.must)
		}
	}
}

func TestSetsAndEnds(t *testing.T) {
	if join() != 0 || join(5) != 5 || join(1, 2, 8) != 11 || only(3) != 8 || set(6).has(0) || !set(6).has(2) {
		t.Error("sets are wrong")
	}
	if odd := those(6, func(n int) bool { return n%2 == 1 }); odd != 42 {
		t.Errorf("the odd numbers are %b", odd)
	}
	var e ends[int]
	for _, x := range []struct{ n, least, greatest int }{{3, 3, 3}, {5, 3, 5}, {-1, -1, 5}, {4, -1, 5}} {
		e.take(x.n)
		if e.least != x.least || e.greatest != x.greatest {
			t.Errorf("with %d the ends are %v", x.n, e)
		}
	}
	texts := ends[string]{}
	texts.take("b")
	if texts.least != "b" || texts.greatest != "b" {
		t.Errorf("the ends are %v", texts)
	}
}
