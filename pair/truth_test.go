package pair_test

import (
	"math/bits"
	"math/rand/v2"
	"testing"

	"pairworks/api"
)

// truths is all that is true in some truth of a pair, found by going through every power, distance and place.
type truths struct {
	p      api.Pair
	powers []int       // of all truths
	moved  map[int]int // the things that cannot stand still with a power of a truth
	found  []api.Span  // of each thing: its distances, in all truths; 0..0: none
}

// shiftsOf returns all shifts of a thing, and whether its rows can fit.
func shiftsOf(p api.Pair, t api.Thing) (map[int]bool, bool) {
	shifts, fit := map[int]bool{}, false
	for l := t.Left.X.Lo; l <= t.Left.X.Hi; l++ {
		for r := t.Right.X.Lo; r <= t.Right.X.Hi; r++ {
			shifts[l-r] = true
		}
	}
	for l := t.Left.Y.Lo; l <= t.Left.Y.Hi; l++ {
		for r := t.Right.Y.Lo; r <= t.Right.Y.Hi; r++ {
			fit = fit || -p.Tilt <= l-r && l-r <= p.Tilt
		}
	}
	return shifts, fit
}

// join returns the least span with both spans; 0..0 is none.
func join(s, t api.Span) api.Span {
	if s == (api.Span{}) || t == (api.Span{}) {
		return span(s.Lo+t.Lo, s.Hi+t.Hi)
	}
	return span(min(s.Lo, t.Lo), max(s.Hi, t.Hi))
}

// distancesAt returns the distances of a thing that stands still, with a power; 0..0: none.
func distancesAt(p api.Pair, t api.Thing, shifts map[int]bool, power int) (s api.Span) {
	for d := p.Near; d <= p.Far; d++ {
		n := power / d
		if (t.Far == 0 || t.Far == d) && n >= 0 && n <= api.MaxShift && shifts[n] {
			s = join(s, span(d, d))
		}
	}
	return s
}

// findTruths goes through all powers of a pair.
func findTruths(p api.Pair) truths {
	all := truths{p: p, moved: map[int]int{}, found: make([]api.Span, len(p.Things))}
	shifts, fit := make([]map[int]bool, len(p.Things)), make([]bool, len(p.Things))
	for k, t := range p.Things {
		shifts[k], fit[k] = shiftsOf(p, t)
	}
	for power := p.Focal.Lo * p.Base.Lo; power <= p.Focal.Hi*p.Base.Hi; power++ {
		moved, can, at := 0, true, make([]api.Span, len(p.Things))
		for k, t := range p.Things {
			if fit[k] {
				at[k] = distancesAt(p, t, shifts[k], power)
			}
			if at[k] == (api.Span{}) {
				moved |= 1 << k
				can = can && t.Far == 0
			}
		}
		if !can {
			continue
		}
		all.powers = append(all.powers, power)
		all.moved[power] = moved
		for k := range p.Things {
			all.found[k] = join(all.found[k], at[k])
		}
	}
	return all
}

func (a truths) power() outcome {
	if len(a.powers) == 0 {
		return failed(api.ErrNone)
	}
	return is(span(a.powers[0], a.powers[len(a.powers)-1]))
}

func (a truths) stands(far int) outcome {
	if len(a.powers) == 0 {
		return failed(api.ErrNone)
	}
	s := span(a.powers[0]/far, a.powers[0]/far)
	for _, power := range a.powers {
		s = span(min(s.Lo, power/far), max(s.Hi, power/far))
	}
	return is(s)
}

func (a truths) why(k int) outcome {
	if len(a.powers) == 0 {
		return failed(api.ErrNone)
	}
	shifts, fit := shiftsOf(a.p, a.p.Things[k])
	least, greatest := api.MaxPlate*2, -api.MaxPlate*2
	for n := range shifts {
		least, greatest = min(least, n), max(greatest, n)
	}
	switch {
	case a.found[k] != api.Span{}:
		return number(0)
	case !fit:
		return number(api.MovedRows)
	case greatest < 0:
		return number(api.MovedBehind)
	case least > api.MaxShift || least*a.p.Near > a.powers[len(a.powers)-1]:
		return number(api.MovedNear)
	}
	return number(api.MovedFar)
}

func (a truths) distance(k int) outcome {
	if len(a.powers) == 0 {
		return failed(api.ErrNone)
	}
	if a.found[k] == (api.Span{}) {
		return failed(api.ErrRefuse)
	}
	return is(a.found[k])
}

func (a truths) fewest() outcome {
	if len(a.powers) == 0 {
		return failed(api.ErrNone)
	}
	best := a.moved[a.powers[0]]
	for _, power := range a.powers {
		m := a.moved[power]
		fewer := bits.OnesCount(uint(m)) - bits.OnesCount(uint(best))
		if fewer < 0 || fewer == 0 && m < best {
			best = m
		}
	}
	var s api.Span
	for _, power := range a.powers {
		if a.moved[power]&^best == 0 {
			s = join(s, span(power, power))
		}
	}
	return outcome{span: s, number: best}
}

// around returns a span with a number.
func around(r *rand.Rand, n, wide int) api.Span {
	lo := n - r.IntN(wide+1)
	return span(lo, n+r.IntN(wide+1))
}

// anyPair returns a pair with few powers and distances, and with things that can be of it, or nearly so.
func anyPair(r *rand.Rand) api.Pair {
	focals := []api.Span{span(1, 60), span(100, 110), span(1000, 1010), span(2000, 2001)}
	bases := []api.Span{span(40, 42), span(40, 45), span(100, 101), span(2000, 2001)}
	k := r.IntN(len(focals))
	p := api.Pair{Focal: focals[k], Base: bases[k], Tilt: r.IntN(3), Near: 2000 + r.IntN(4)}
	p.Far = p.Near + r.IntN([]int{90, 90, 90, 4}[k])
	for range r.IntN(6) {
		power := p.Focal.Lo*p.Base.Lo + r.IntN(p.Focal.Hi*p.Base.Hi-p.Focal.Lo*p.Base.Lo+1)
		far := p.Near + r.IntN(p.Far-p.Near+1)
		n := power/far + r.IntN(3) - 1
		left := r.IntN(7) - 3
		wide := r.IntN(2)
		t := api.Thing{Left: place(around(r, left+n, wide), around(r, 0, 1)), Right: place(around(r, left, wide), around(r, r.IntN(5)-2, 1))}
		if r.IntN(3) == 0 {
			t.Far = far
		}
		p.Things = append(p.Things, t)
	}
	return p
}

// Each result is what all truths tell, one by one: its ends are reached, and nothing is beyond them.
func TestAgainstAllTruths(t *testing.T) {
	r := rand.New(rand.NewPCG(1, 2))
	seen := map[outcome]int{}
	for range 1500 {
		p := anyPair(r)
		all := findTruths(p)
		expect(t, "Power", power(p), all.power())
		expect(t, "Fewest", fewest(p), all.fewest())
		for _, far := range []int{p.Near, p.Near + r.IntN(p.Far-p.Near+1), p.Far} {
			expect(t, "Stands", stands(p, far), all.stands(far))
		}
		for k := range p.Things {
			expect(t, "Why", why(p, k), all.why(k))
			expect(t, "Distance", distance(p, k), all.distance(k))
			seen[all.why(k)]++
		}
		if t.Failed() {
			t.Fatalf("the pair is %v", p)
		}
	}
	for _, want := range []outcome{number(0), number(api.MovedRows), number(api.MovedBehind), number(api.MovedNear), number(api.MovedFar), failed(api.ErrNone)} {
		if seen[want] < 10 {
			t.Errorf("only %d things had the reason %v", seen[want], want)
		}
	}
}
