package chart

import (
	"errors"
	"slices"
	"testing"

	"pairworks/api"
)

// Whatever stops an asking, it is an error with no result, and no panic.
func TestStops(t *testing.T) {
	for _, x := range []struct {
		stop any
		want int
		e    api.Errno
	}{{nil, 7, api.OK}, {api.ErrRefuse, 0, api.ErrRefuse}, {errors.New("a panic of another kind"), 0, api.ErrArg}, {"a text", 0, api.ErrArg}} {
		answer := func(looked) int {
			if x.stop != nil {
				panic(x.stop)
			}
			return 7
		}
		if n, e := ask(api.Chart{Stations: 1}, answer, 0); n != x.want || e != x.e {
			t.Errorf("%v: %d, error %d, want %d, error %d", x.stop, n, e, x.want, x.e)
		}
	}
}

// between returns a sight of these stations that tells nothing.
func between(from, to int) api.Sight { return api.Sight{From: from, To: to} }

// ring returns the chart of a square with a diagonal from 0 to 2, and a second sight from 2 to 3.
func ring() looked {
	return look(api.Chart{Stations: 4, Sights: []api.Sight{between(0, 1), between(2, 1), between(2, 3), between(0, 3), between(0, 2), between(3, 2)}})
}

// sightsOf returns the sights of the first ones of some ways; it asks for no more.
func sightsOf(ways func(yield func(way) bool), stop int) []set {
	var list []set
	for w := range ways {
		list = append(list, w.sights)
		if len(list) == stop {
			break
		}
	}
	return list
}

// Each way from one station to another one is yielded once, and just by the sights that are allowed.
func TestWays(t *testing.T) {
	l := ring()
	for _, x := range []struct {
		from, to int
		by       set
		want     []set
	}{
		{0, 0, l.all(), []set{0}},
		{0, 1, l.all(), []set{setOf(0), setOf(3, 2, 1), setOf(3, 5, 1), setOf(4, 1)}},
		{1, 0, l.all(), []set{setOf(0), setOf(1, 2, 3), setOf(1, 5, 3), setOf(1, 4)}},
		{2, 3, l.all(), []set{setOf(2), setOf(5), setOf(1, 0, 3), setOf(4, 3)}},
		{2, 3, setOf(0, 1, 3, 5), []set{setOf(5), setOf(1, 0, 3)}},
		{2, 3, setOf(0, 1), nil},
		{2, 3, 0, nil},
	} {
		got := sightsOf(l.ways(x.from, x.to, x.by), 0)
		slices.Sort(got)
		slices.Sort(x.want)
		if !slices.Equal(got, x.want) {
			t.Errorf("from %d to %d by %b: %b, want %b", x.from, x.to, x.by, got, x.want)
		}
	}
}

// Each circle is yielded once for each of its sights; an iterator that is asked for no more yields no more.
func TestCircles(t *testing.T) {
	l := ring()
	all := sightsOf(l.circles(), 0)
	times := map[set]int{}
	for _, c := range all {
		times[c]++
	}
	for _, want := range []set{setOf(2, 5), setOf(0, 1, 4), setOf(2, 3, 4), setOf(3, 4, 5), setOf(0, 1, 2, 3), setOf(0, 1, 3, 5)} {
		if times[want] != want.many() {
			t.Errorf("the circle %b comes %d times", want, times[want])
		}
		delete(times, want)
	}
	if len(times) != 0 {
		t.Errorf("there are more circles: %v", times)
	}
	for stop := 1; stop < len(all); stop++ {
		if got := sightsOf(l.circles(), stop); !slices.Equal(got, all[:stop]) {
			t.Errorf("the first %d circles are %b", stop, got)
		}
	}
}

func TestSets(t *testing.T) {
	if below(0) != 0 || below(3) != 7 || setOf() != 0 || setOf(0, 3, 3) != 9 {
		t.Error("sets are made wrong")
	}
	want := []set{0, 1, 2, 4, 3, 5, 6, 7}
	if got := parts(3); !slices.Equal(got, want) {
		t.Errorf("the parts of three are %v, want %v", got, want)
	}
	if sum[int]() != 0 || sum(4, -9, 2) != -3 {
		t.Error("lengths are added wrong")
	}
}
