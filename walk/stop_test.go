package walk

import (
	"cmp"
	"errors"
	"slices"
	"testing"

	"pairworks/api"
)

// Whatever stops an asking, it is an error with no result, and no panic.
func TestStops(t *testing.T) {
	for _, x := range []struct {
		stop any
		want int
		e    api.Errno
	}{{nil, 7, api.OK}, {api.ErrNone, 0, api.ErrNone}, {errors.New("a panic of another kind"), 0, api.ErrArg}, {"a text", 0, api.ErrArg}} {
		answer := func(looked) int {
			if x.stop != nil {
				panic(x.stop)
			}
			return 7
		}
		if n, e := ask(api.Tour{}, nil, answer); n != x.want || e != x.e {
			t.Errorf("%v: %d, error %d, want %d, error %d", x.stop, n, e, x.want, x.e)
		}
	}
}

// Each tour is yielded once, in lexicographic order; an iterator that is asked for no more yields no more.
func TestIterator(t *testing.T) {
	want := [][]int{{0, 1, 2}, {0, 2, 1}, {1, 0, 2}, {1, 2, 0}, {2, 0, 1}, {2, 1, 0}}
	three := looked{api.Tour{From: make([]api.Span, 3)}}
	for stop := 1; stop <= 7; stop++ {
		var got [][]int
		for tour := range three.tours() {
			got = append(got, tour)
			if len(got) == stop {
				break
			}
		}
		if !slices.EqualFunc(got, want[:min(stop, 6)], slices.Equal[[]int]) {
			t.Errorf("the first %d tours are %v", stop, got)
		}
	}
	for views, many := range []int{1, 1, 2, 6, 24, 120, 720} {
		all := slices.Collect(looked{api.Tour{From: make([]api.Span, views)}}.tours())
		if len(all) != many || !slices.IsSortedFunc(all, slices.Compare[[]int]) {
			t.Errorf("of %d views there are the tours %v", views, all)
		}
	}
}

// The first rule by which ends differ decides.
func TestRules(t *testing.T) {
	list := []end{
		{[]int{0, 1}, 9}, {[]int{4, 1}, 9}, {[]int{3, 2}, 10}, {[]int{5}, 0}, {[]int{0}, 3}, {[]int{1}, 3}, {nil, 0}, {nil, 1},
	}
	for a := range list {
		for b := range list {
			if got := compare(list[a], list[b]); got != cmp.Compare(a, b) {
				t.Errorf("%v is compared with %v as %d", list[a], list[b], got)
			}
		}
	}
}

func TestLeast(t *testing.T) {
	tens := func(a, b int) int { return cmp.Compare(a/10, b/10) }
	for _, x := range []struct {
		first  int
		others []int
		want   int
	}{{41, nil, 41}, {41, []int{42, 49}, 41}, {41, []int{35, 52, 33}, 35}, {41, []int{50, 12, 3, 4, 11}, 3}} {
		if got := least(tens, x.first, x.others...); got != x.want {
			t.Errorf("the least of %d and %v is %d", x.first, x.others, got)
		}
	}
}
