package bar

import (
	"math/bits"
	"slices"
	"testing"

	"pairworks/api"
)

// Each plan is yielded once: those with fewer slots first, of several the least number.
func TestPlans(t *testing.T) {
	for _, b := range []api.Bar{
		{Slots: 1}, {Slots: 1, Most: 1}, {Slots: 6, Most: 6}, {Slots: 6, Most: 16}, {Slots: 7, Broken: 1<<3 | 1, Most: 3},
		{Slots: 5, Broken: 31, Most: 5}, {Slots: 16, Most: 16}, {Slots: 16, Broken: 1 << 15, Most: 15},
	} {
		var want []plan
		for number := range 1 << b.Slots {
			if number&b.Broken == 0 && bits.OnesCount(uint(number)) <= b.Most {
				want = append(want, plan(number))
			}
		}
		slices.SortStableFunc(want, func(p, q plan) int { return size(p) - size(q) })
		if got := slices.Collect(looked{Bar: b}.plans()); !slices.Equal(got, want) {
			t.Errorf("the plans of %v are %v, want %v", b, got, want)
		}
	}
}

// An iterator that is asked for no more yields no more.
func TestIteratorsEnd(t *testing.T) {
	l, e := look(api.Bar{Slots: 6, Pitch: 10, Most: 3, Scenes: []api.Scene{{Least: 10, Most: 30, Calm: 1}}})
	if e != api.OK {
		t.Fatalf("error %d", e)
	}
	for stop := 1; stop < 30; stop++ {
		if got := part(l.plans(), stop); !slices.Equal(got, slices.Collect(l.plans())[:stop]) {
			t.Errorf("the first %d plans are %v", stop, got)
		}
	}
	for stop := 1; stop < 12; stop++ {
		taking := l.taking(l.all(), l.plans())
		if got := part(taking, stop); !slices.Equal(got, slices.Collect(taking)[:stop]) {
			t.Errorf("the first %d plans that take all are %v", stop, got)
		}
	}
	if got := part(each(scenes(0b11010)), 2); !slices.Equal(got, []int{1, 3}) {
		t.Errorf("the first 2 numbers are %v", got)
	}
	if got := part(l.takenBy(0b1011, 0), 2); !slices.Equal(got, []gap{{0, 3}, {1, 3}}) {
		t.Errorf("the first 2 gaps are %v", got)
	}
}

// part returns the first ones of all; it asks for no more.
func part[T any](all func(yield func(T) bool), stop int) []T {
	var list []T
	for one := range all {
		list = append(list, one)
		if len(list) == stop {
			break
		}
	}
	return list
}

func TestSets(t *testing.T) {
	if join[plan]() != 0 || join(only[plan](2)) != 4 || join(only[scenes](0), only[scenes](3), only[scenes](3)) != 9 {
		t.Error("sets are joined wrong")
	}
	if below[plan](0) != 0 || below[plan](3) != 7 {
		t.Error("the numbers below 3 are wrong")
	}
	if _, found := first(each(plan(0))); found {
		t.Error("an empty set has a first number")
	}
	if g := (gap{2, 6}); g.between() != 0b111000 || (gap{2, 3}).between() != 0 {
		t.Errorf("between the slots of %v are %b", g, g.between())
	}
}
