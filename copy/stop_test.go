package copy

import (
	"errors"
	"slices"
	"testing"

	"pairworks/api"
)

// Whatever stops an asking, it is an error with no result, and no panic.
func TestStops(t *testing.T) {
	for _, x := range []struct {
		stop any
		want int
		e    api.Errno
	}{{nil, 7, api.OK}, {api.ErrNone, 0, api.ErrNone}, {errors.New("a panic of another kind"), 0, api.ErrArg}, {"a text", 0, api.ErrArg}} {
		answer := func(looked) int {
			if x.stop != nil {
				panic(x.stop)
			}
			return 7
		}
		if n, e := ask(api.Prints{}, answer); n != x.want || e != x.e {
			t.Errorf("%v: %d, error %d, want %d, error %d", x.stop, n, e, x.want, x.e)
		}
	}
}

// alike returns so many cards that can all be copies of each other.
func alike(many int) looked {
	return looked{api.Prints{Cards: make([]api.Print, many)}}
}

// Each way is yielded once, in lexicographic order; an iterator that is asked for no more yields no more.
func TestIteratorOfWays(t *testing.T) {
	for many, count := range []int{1, 1, 3, 16, 125, 1296} {
		var all [][]int
		for way := range alike(many).ways() {
			all = append(all, way.list())
		}
		if len(all) != count || !slices.IsSortedFunc(all, slices.Compare[[]int]) || len(slices.CompactFunc(slices.Clone(all), slices.Equal[[]int])) != count {
			t.Errorf("of %d cards there are the ways %v", many, all)
		}
		for stop := 1; stop <= min(count, 20); stop++ {
			var got [][]int
			for way := range alike(many).ways() {
				got = append(got, way.list())
				if len(got) == stop {
					break
				}
			}
			if !slices.EqualFunc(got, all[:stop], slices.Equal[[]int]) {
				t.Errorf("the first %d ways are %v", stop, got)
			}
		}
	}
}

// Each list is yielded once, in lexicographic order; an iterator that is asked for no more yields no more.
func TestIteratorOfLists(t *testing.T) {
	want := [][]int{{0, 1, 2}, {0, 2, 1}, {1, 0, 2}, {1, 2, 0}, {2, 0, 1}, {2, 1, 0}}
	for stop := 1; stop <= 7; stop++ {
		var got [][]int
		for list := range alike(3).lists() {
			got = append(got, list)
			if len(got) == stop {
				break
			}
		}
		if !slices.EqualFunc(got, want[:min(stop, 6)], slices.Equal[[]int]) {
			t.Errorf("the first %d lists are %v", stop, got)
		}
	}
	for many, count := range []int{1, 1, 2, 6, 24, maxOrders} {
		all := slices.Collect(alike(many).lists())
		if len(all) != count || !slices.IsSortedFunc(all, slices.Compare[[]int]) {
			t.Errorf("of %d cards there are the lists %v", many, all)
		}
	}
}

func TestLeast(t *testing.T) {
	tens := func(n int) int { return n / 10 }
	for _, x := range []struct {
		first  int
		others []int
		want   int
	}{{41, nil, 41}, {41, []int{42, 49}, 41}, {41, []int{35, 52, 33}, 35}, {41, []int{50, 12, 3, 4, 11}, 3}} {
		if got := least(tens, x.first, x.others...); got != x.want {
			t.Errorf("the least of %d and %v is %d", x.first, x.others, got)
		}
	}
}
