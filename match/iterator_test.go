package match

import (
	"slices"
	"testing"

	"pairworks/api"
)

// An iterator that is asked for no more yields no more.
func TestIteratorsEnd(t *testing.T) {
	l := looked{Rows: api.Rows{Left: make([]api.Mark, 2), Right: make([]api.Mark, 3)}}
	var got [][2]int
	for left, right := range l.pairs() {
		got = append(got, [2]int{left, right})
		if len(got) == 4 {
			break
		}
	}
	if want := [][2]int{{0, 0}, {0, 1}, {0, 2}, {1, 0}}; !slices.Equal(got, want) {
		t.Errorf("the pairs are %v, want %v", got, want)
	}
	for k := range marks(9, join(setOf(3), setOf(5), setOf(9)).has) {
		if k != 3 {
			t.Errorf("%d is yielded", k)
		}
		break
	}
	if got := slices.Collect(marks(9, join(setOf(3), setOf(5), setOf(9)).has)); !slices.Equal(got, []int{3, 5}) {
		t.Errorf("the marks are %v", got)
	}
}
