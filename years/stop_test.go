package years

import (
	"errors"
	"slices"
	"testing"

	"pairworks/api"
)

// broken is a question that stops with something.
type broken struct {
	every
	stop any
}

func (q broken) answer(l looked) int {
	if q.stop != nil {
		panic(q.stop)
	}
	return 7
}

// Whatever stops an asking, it is an error with no result, and no panic.
func TestStops(t *testing.T) {
	p := api.Pair{Focal: api.Span{Lo: 1, Hi: 1}, Base: api.Span{Lo: 1, Hi: 1}, Near: 2000, Far: 2000}
	g := api.Glacier{First: p, Second: p, SecondDay: 1}
	for _, x := range []struct {
		stop any
		want int
		e    api.Errno
	}{{nil, 7, api.OK}, {api.ErrRefuse, 0, api.ErrRefuse}, {errors.New("a panic of another kind"), 0, api.ErrArg}, {"a text", 0, api.ErrArg}} {
		if n, e := ask(g, broken{stop: x.stop}); n != x.want || e != x.e {
			t.Errorf("%v: %d, error %d, want %d, error %d", x.stop, n, e, x.want, x.e)
		}
	}
}

// Just what is seen in both pairs is yielded; an iterator that is asked for no more yields no more.
func TestIterators(t *testing.T) {
	is, none := sight{seen: true}, sight{}
	l := looked{things: []thing{{is, none}, {is, is}, {none, none}, {is, is}, {none, is}, {is, is}}}
	for stop, want := range [][]int{{1}, {1, 3}, {1, 3, 5}, {1, 3, 5}} {
		var list []int
		for k := range l.seen() {
			list = append(list, k)
			if len(list) == stop+1 {
				break
			}
		}
		if !slices.Equal(list, want) {
			t.Errorf("the things are %v, want %v", list, want)
		}
	}
	if got := l.all(); got != 0b101010 {
		t.Errorf("the things that are seen are %b", got)
	}
	if got := l.moves(0b000111); len(got) != 1 {
		t.Errorf("%d things of 0, 1 and 2 moved, want 1", len(got))
	}
	var numbers []int
	for n := range (span{-2, 9}).all() {
		numbers = append(numbers, n)
		if n == 1 {
			break
		}
	}
	if !slices.Equal(numbers, []int{-2, -1, 0, 1}) {
		t.Errorf("the numbers are %v", numbers)
	}
	for n := range (span{2, 1}).all() {
		t.Errorf("an empty span has the number %d", n)
	}
}
