package paint

import (
	"errors"
	"slices"
	"testing"

	"pairworks/api"
)

// Whatever stops an asking, it is an error with no result, and no panic.
func TestStops(t *testing.T) {
	for _, x := range []struct {
		stop any
		want int
		e    api.Errno
	}{{nil, 7, api.OK}, {api.ErrNone, 0, api.ErrNone}, {errors.New("a panic of another kind"), 0, api.ErrArg}, {"a text", 0, api.ErrArg}} {
		answer := func(looked) int {
			if x.stop != nil {
				panic(x.stop)
			}
			return 7
		}
		if n, e := ask(api.Canvas{}, answer); n != x.want || e != x.e {
			t.Errorf("%v: %d, error %d, want %d, error %d", x.stop, n, e, x.want, x.e)
		}
	}
}

// rows returns a canvas of so many marks of each row that all fit.
func rows(left, right, hidden, most int) looked {
	return look(api.Canvas{Rows: api.Rows{Left: make([]api.Mark, left), Right: make([]api.Mark, right), Hidden: hidden}, Painted: most})
}

// Each set is yielded once; an iterator that is asked for no more yields no more.
func TestIteratorOfSets(t *testing.T) {
	want := []painted{{0, 0}, {1, 0}, {2, 0}, {3, 0}, {0, 1}}
	for stop := 1; stop <= len(want)+1; stop++ {
		var got []painted
		for p := range rows(2, 1, 0, 0).sets() {
			got = append(got, p)
			if len(got) == stop {
				break
			}
		}
		if !slices.Equal(got, want[:min(stop, len(want))]) {
			t.Errorf("the first %d sets are %v", stop, got)
		}
	}
	if all := slices.Collect(rows(10, 10, 0, 0).sets()); len(all) != 1+1023+1023 {
		t.Errorf("there are %d sets of the longest rows", len(all))
	}
}

func TestIteratorOfCases(t *testing.T) {
	want := []painted{{0, 0}, {1, 0}, {2, 0}, {0, 1}, {0, 2}, {0, 4}}
	for stop := 1; stop <= len(want)+1; stop++ {
		var got []painted
		for p := range rows(2, 3, 5, 1).cases(anyCase) {
			got = append(got, p)
			if len(got) == stop {
				break
			}
		}
		if !slices.Equal(got, want[:min(stop, len(want))]) {
			t.Errorf("the first %d cases are %v", stop, got)
		}
	}
	ofRight := func(p painted) bool { return p[rightRow] != 0 }
	if got := slices.Collect(rows(2, 3, 5, 1).cases(ofRight)); !slices.Equal(got, want[3:]) {
		t.Errorf("the cases that are wanted are %v", got)
	}
}

// Cases have one order, in whatever order they are taken.
func TestOrderOfCases(t *testing.T) {
	order := []painted{{0, 0}, {1, 0}, {2, 0}, {4, 0}, {0, 1}, {0, 512}, {3, 0}, {5, 0}, {6, 0}, {9, 0}, {0, 3}, {0, 6}, {0, 9}, {7, 0}, {0, 7}}
	for k, p := range order {
		for other, q := range order {
			if got := p.isBefore(q); got != (k < other) {
				t.Errorf("%v is before %v: %v", p, q, got)
			}
			b := best{}
			for _, taken := range []painted{p, q, p} {
				b.take(taken)
			}
			if want := order[min(k, other)]; b.gathered() != want {
				t.Errorf("the best of %v and %v is %v", p, q, b.gathered())
			}
		}
	}
}

func TestGatherers(t *testing.T) {
	taken := []painted{{6, 0}, {7, 0}, {2, 0}}
	for what, x := range map[string]struct {
		g     gatherer
		wants []painted // after each one
	}{
		"kept":   {&kept{}, []painted{{6, 0}, {6, 0}, {6, 0}}},
		"best":   {&best{}, []painted{{6, 0}, {6, 0}, {2, 0}}},
		"joined": {&joined{}, []painted{{6, 0}, {7, 0}, {7, 0}}},
		"common": {&common{}, []painted{{6, 0}, {6, 0}, {2, 0}}},
	} {
		for k, p := range taken {
			x.g.take(p)
			if got := x.g.gathered(); got != x.wants[k] {
				t.Errorf("%s of %v is %v", what, taken[:k+1], got)
			}
		}
	}
	both := []painted{{3, 0}, {0, 5}}
	for what, x := range map[string]struct {
		g    gatherer
		want painted
	}{"joined": {&joined{}, painted{3, 5}}, "common": {&common{}, painted{}}} {
		for _, p := range both {
			x.g.take(p)
		}
		if got := x.g.gathered(); got != x.want {
			t.Errorf("%s of %v is %v", what, both, got)
		}
	}
}

// Rows that were asked before are not asked again.
func TestKnownRows(t *testing.T) {
	l := rows(2, 2, 0, 1)
	if !l.hasWay(painted{}) || l.hasWay(painted{1, 0}) || len(l.known) != 2 {
		t.Errorf("known is %v", l.known)
	}
	l.known[painted{1, 0}] = true
	if !l.hasWay(painted{1, 0}) || l.count(anyCase) != 2 || len(l.known) != 5 {
		t.Errorf("known is %v", l.known)
	}
}

func TestSets(t *testing.T) {
	if join() != 0 || join(5) != 5 || join(1, 2, 8) != 11 || below(0) != 0 || below(10) != 1023 {
		t.Error("sets are joined wrongly")
	}
	if got := staying([]string{"a", "b", "c", "d"}, 5); !slices.Equal(got, []string{"b", "d"}) {
		t.Errorf("%v stay", got)
	}
}
