package heap

import (
	"errors"
	"slices"
	"testing"

	"pairworks/api"
)

// Whatever stops an asking, it is an error with no result, and no panic.
func TestStops(t *testing.T) {
	for _, x := range []struct {
		stop any
		want int
		e    api.Errno
	}{{nil, 7, api.OK}, {api.ErrNone, 0, api.ErrNone}, {errors.New("a panic of another kind"), 0, api.ErrArg}, {"a text", 0, api.ErrArg}} {
		answer := func(looked) int {
			if x.stop != nil {
				panic(x.stop)
			}
			return 7
		}
		if n, e := ask(api.Mixed{}, answer); n != x.want || e != x.e {
			t.Errorf("%v: %d, error %d, want %d, error %d", x.stop, n, e, x.want, x.e)
		}
	}
}

// Each number that is wanted is yielded once; an iterator that is asked for no more yields no more.
func TestIteratorOfNumbers(t *testing.T) {
	want := []int{0, 2, 3}
	for stop := 1; stop <= len(want)+1; stop++ {
		var got []int
		for n := range numbers(5, set(45).has) {
			got = append(got, n)
			if len(got) == stop {
				break
			}
		}
		if !slices.Equal(got, want[:min(stop, len(want))]) {
			t.Errorf("the first %d numbers are %v", stop, got)
		}
	}
}

// Sets of fewer are yielded first, and of as many the lesser number.
func TestIteratorOfSets(t *testing.T) {
	want := []set{0, 1, 2, 4, 3, 5, 6, 7}
	for stop := 1; stop <= len(want)+1; stop++ {
		var got []set
		for s := range sets(3) {
			got = append(got, s)
			if len(got) == stop {
				break
			}
		}
		if !slices.Equal(got, want[:min(stop, len(want))]) {
			t.Errorf("the first %d sets are %v", stop, got)
		}
	}
	if all := slices.Collect(sets(api.MaxCards)); len(all) != 256 || all[255] != 255 {
		t.Errorf("the sets of all cards are %v", all)
	}
	if none := slices.Collect(sets(0)); !slices.Equal(none, []set{0}) {
		t.Errorf("the sets of no cards are %v", none)
	}
}

func TestSets(t *testing.T) {
	if join() != 0 || join(5) != 5 || join(1, 2, 8) != 11 || below(0) != 0 || below(12) != 4095 {
		t.Error("sets are joined wrongly")
	}
	if set(6).both(3) != 2 || set(6).without(3) != 4 || set(6).many() != 2 || set(6).has(0) || !set(6).has(2) || setOf(3) != 8 {
		t.Error("sets are wrong")
	}
}

func TestPiecesOfTwoKinds(t *testing.T) {
	for text, want := range map[string]piece{
		"": whole{}, "a?": whole{"a?"}, "*": starred{}, "a*": starred{before: whole{"a"}}, "*b": starred{after: whole{"b"}}, "a*?b": starred{whole{"a"}, whole{"?b"}},
	} {
		if got := read(text); got != want {
			t.Errorf("%q is read as %v", text, got)
		}
	}
	if n := howMany([]byte("a*b**"), isStar); n != 3 {
		t.Errorf("there are %d stars", n)
	}
}

// The most ways are counted, and what is narrowed for one question is not narrowed for others.
func TestCountOfTheMostWays(t *testing.T) {
	m := api.Mixed{Boxes: []api.Box{{Colour: 1}}, Cards: make([]api.Torn, api.MaxCards)}
	for k := range m.Cards {
		m.Cards[k] = api.Torn{Number: "*", Text: "*"}
	}
	for range api.MaxEntries {
		m.Boxes[0].Titles = append(m.Boxes[0].Titles, "a")
	}
	l := look(m)
	before := slices.Clone(l.fits)
	if l.without(3) != 6652800 || l.share(7, 11) != 1663200 || l.count() != 19958400 || !slices.Equal(l.fits, before) {
		t.Errorf("%d ways are counted, and %v is left", l.count(), l.fits)
	}
	narrow := l.narrowed(func(card int, fits set) set { return fits.both(setOf(card)) })
	if narrow.count() != 1 || !slices.Equal(narrow.first(), []int{0, 1, 2, 3, 4, 5, 6, 7}) {
		t.Errorf("the narrowed ways are %d, and %v", narrow.count(), narrow.first())
	}
}
