package pair

import (
	"errors"
	"testing"

	"pairworks/api"
)

// Whatever stops an asking, it is an error with no result, and no panic.
func TestStops(t *testing.T) {
	p := api.Pair{Focal: span(1, 1), Base: span(1, 1), Near: 2000, Far: 2000}
	for _, x := range []struct {
		stop any
		want api.Errno
	}{{api.ErrRefuse, api.ErrRefuse}, {errors.New("a panic of another kind"), api.ErrArg}, {"a text", api.ErrArg}} {
		n, e := answer(p, func(looked) int { panic(x.stop) })
		if n != 0 || e != x.want {
			t.Errorf("%v: %d, error %d, want the error %d", x.stop, n, e, x.want)
		}
	}
}

// An iterator that is asked for no more yields no more.
func TestTriesEnd(t *testing.T) {
	things := []api.Thing{{Left: api.Place{X: span(1, 1)}}, {Left: api.Place{X: span(-1, -1)}}, {Left: api.Place{X: span(3, 4)}}}
	l := look(api.Pair{Focal: span(1, 9000), Base: span(1, 1), Near: 2000, Far: 2500, Things: things})
	want := []int{1, 9000, 2000, 4999, 6000, 9000}
	for most := range want {
		n := 0
		for power := range l.tries() {
			if power != want[n] {
				t.Errorf("the try %d is %d, want %d", n, power, want[n])
			}
			if n == most {
				break
			}
			n++
		}
		if n != most {
			t.Errorf("%d tries, want %d", n, most)
		}
	}
}
