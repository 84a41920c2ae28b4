package mount_test

import (
	"fmt"
	"math/rand/v2"
	"testing"

	"pairworks/api"
	"pairworks/pair"
)

func holds(s api.Span, n int) bool { return s.Lo <= n && n <= s.Hi }

// numbers returns all numbers of a span.
func numbers(s api.Span) []int {
	var list []int
	for n := s.Lo; n <= s.Hi; n++ {
		list = append(list, n)
	}
	return list
}

// shiftsOf returns all shifts of a thing, number by number.
func shiftsOf(x api.Thing) []int {
	known := map[int]bool{}
	var list []int
	for _, left := range numbers(x.Left.X) {
		for _, right := range numbers(x.Right.X) {
			if !known[left-right] {
				list = append(list, left-right)
			}
			known[left-right] = true
		}
	}
	return list
}

// stand returns the numbers of the things that are seen.
func stand(c api.Card) []int {
	var list []int
	for k := range c.Pair.Things {
		if why, e := pair.Why(c.Pair, k); e == api.OK && why == 0 {
			list = append(list, k)
		}
	}
	return list
}

// onCard returns the distance on the card of a shift.
func onCard(c api.Card, t api.Cuts, shift int) int {
	return 2*c.Half - c.Step*(t.LeftRight+t.RightLeft) - shift
}

// hurtsBy returns the first reason, but for HurtCut, why one shift hurts these eyes; 0 if it does not.
func hurtsBy(c api.Card, t api.Cuts, shift, eyes int) int {
	window := c.Step * (t.LeftLeft - t.RightLeft)
	switch {
	case onCard(c, t, shift) < eyes-c.Squeeze:
		return api.HurtNear
	case onCard(c, t, shift) > eyes+c.Prism:
		return api.HurtFar
	case shift > window+c.Front:
		return api.HurtFront
	case shift < window-c.Deep:
		return api.HurtBehind
	}
	return 0
}

// isCut returns whether a number is on no part of a print that is left.
func isCut(c api.Card, left, right, x int) bool {
	return x < -c.Half+c.Step*left || x > c.Half-c.Step*right
}

// whyOne returns the first reason why a thing hurts, found by going through all its numbers; 0 if it does not.
func whyOne(c api.Card, t api.Cuts, x api.Thing) int {
	first := 0
	take := func(why int) {
		if why != 0 && (first == 0 || why < first) {
			first = why
		}
	}
	for _, shift := range shiftsOf(x) {
		for _, eyes := range numbers(c.Eyes) {
			take(hurtsBy(c, t, shift, eyes))
		}
	}
	for _, left := range numbers(x.Left.X) {
		if isCut(c, t.LeftLeft, t.LeftRight, left) {
			take(api.HurtCut)
		}
	}
	for _, right := range numbers(x.Right.X) {
		if isCut(c, t.RightLeft, t.RightRight, right) {
			take(api.HurtCut)
		}
	}
	return first
}

func wantHurts(c api.Card, t api.Cuts) outcome {
	for _, k := range stand(c) {
		if why := whyOne(c, t, c.Pair.Things[k]); why != 0 {
			return refused(k, why)
		}
	}
	return fine()
}

// allTrimmings returns all trimmings of a card, by LeftLeft, LeftRight and RightLeft.
func allTrimmings(c api.Card) []api.Cuts {
	var list []api.Cuts
	edge := numbers(span(0, c.Cuts))
	for _, a := range edge {
		for _, b := range edge {
			for _, d := range edge {
				for _, e := range edge {
					if a+b == d+e {
						list = append(list, cut(a, b, d, e))
					}
				}
			}
		}
	}
	return list
}

func steps(t api.Cuts) int { return t.LeftLeft + t.LeftRight + t.RightLeft + t.RightRight }

func wantTrim(c api.Card) outcome {
	best := refused()
	for _, t := range allTrimmings(c) {
		if (best.e != api.OK || steps(t) < steps(best.cuts)) && wantHurts(c, t) == fine() {
			best = trimmed(t)
		}
	}
	return best
}

func wantWhy(c api.Card) outcome {
	if wantTrim(c).e == api.OK {
		return fine()
	}
	for _, x := range []struct{ why, most int }{
		{api.ApartEyes, c.Eyes.Lo + c.Prism + c.Squeeze - c.Eyes.Hi},
		{api.ApartWindow, c.Front + c.Deep},
	} {
		for _, a := range stand(c) {
			for _, b := range stand(c) {
				if apart(c.Pair.Things[a], c.Pair.Things[b]) > x.most {
					return refused(x.why, a, b)
				}
			}
		}
	}
	return refused(api.ApartCuts, 0, 0)
}

// apart returns the greatest shift of a thing less the least one of another.
func apart(x, y api.Thing) int {
	most := -1 << 30
	for _, m := range shiftsOf(x) {
		for _, n := range shiftsOf(y) {
			most = max(most, m-n)
		}
	}
	return most
}

// spanOf returns the span of the numbers that are wanted, which must be next to one another.
func spanOf(t *testing.T, list []int, wanted func(n int) bool) outcome {
	var found []int
	for _, n := range list {
		if wanted(n) {
			found = append(found, n)
		}
	}
	if len(found) == 0 {
		return failed(api.ErrNone)
	}
	lo, hi := found[0], found[len(found)-1]
	if hi-lo+1 != len(found) {
		t.Errorf("from %d to %d there are just %d numbers", lo, hi, len(found))
	}
	return is(lo, hi)
}

func wantEyes(t *testing.T, c api.Card, cuts api.Cuts) outcome {
	var distances []int
	for _, k := range stand(c) {
		for _, shift := range shiftsOf(c.Pair.Things[k]) {
			distances = append(distances, onCard(c, cuts, shift))
		}
	}
	return spanOf(t, numbers(span(1, api.MaxEyes)), func(eyes int) bool {
		for _, n := range distances {
			if n < eyes-c.Squeeze || n > eyes+c.Prism {
				return false
			}
		}
		return true
	})
}

func wantRoom(t *testing.T, c api.Card, cuts api.Cuts) outcome {
	return spanOf(t, numbers(span(0, api.MaxShift)), func(shift int) bool {
		for _, eyes := range numbers(c.Eyes) {
			if hurtsBy(c, cuts, shift, eyes) != 0 {
				return false
			}
		}
		return true
	})
}

func wantDepths(t *testing.T, c api.Card, cuts api.Cuts) outcome {
	room := wantRoom(t, c, cuts)
	if room.e != api.OK {
		return room
	}
	return spanOf(t, numbers(span(c.Pair.Near, c.Pair.Far)), func(far int) bool {
		s, e := pair.Stands(c.Pair, far)
		return e == api.OK && holds(room.span, s.Lo) && holds(room.span, s.Hi)
	})
}

// small returns a card with few numbers, and a trimming of it with which about as much hurts as does not.
func small(r *rand.Rand) (api.Card, api.Cuts) {
	c := api.Card{
		Pair: api.Pair{Focal: around(r, 50000-r.IntN(1000), 1+r.IntN(900)), Base: span(2, 2), Tilt: 1, Near: 2000 + r.IntN(99), Far: 2400 + r.IntN(4000)},
		Half: 60 + r.IntN(20), Step: 1 + r.IntN(25), Cuts: r.IntN(4), Prism: r.IntN(20), Squeeze: r.IntN(20),
	}
	c.Pair.Focal.Hi = min(c.Pair.Focal.Hi, api.MaxFocal)
	all := allTrimmings(c)
	cuts, other := all[r.IntN(len(all))], all[r.IntN(len(all))]
	if other.LeftLeft-other.RightLeft > cuts.LeftLeft-cuts.RightLeft {
		cuts = other // so that windows are not always behind what is seen
	}
	window := c.Step * (cuts.LeftLeft - cuts.RightLeft)
	shift := min(45, max(16, window+r.IntN(50)-25))
	c.Eyes = around(r, max(5, onCard(c, cuts, shift)), r.IntN(4))
	c.Front, c.Deep = max(0, shift-window+r.IntN(20)-4), max(0, window-shift+r.IntN(20)-8)
	for range r.IntN(6) {
		c.Pair.Things = append(c.Pair.Things, smallThing(r, c.Pair, shift+r.IntN(15)-7))
	}
	return c, cuts
}

// smallThing returns a thing with a shift that is about as great as this one.
func smallThing(r *rand.Rand, p api.Pair, shift int) api.Thing {
	middle := r.IntN(90) - 45
	x := at(around(r, middle+shift/2, r.IntN(4)), around(r, middle-(shift+1)/2, r.IntN(4)))
	x.Left.Y, x.Right.Y = around(r, 0, r.IntN(2)), around(r, r.IntN(3), r.IntN(2))
	if r.IntN(8) == 0 {
		return mark(min(p.Far, max(p.Near, 97000/shift)), x)
	}
	return x
}

// around returns a span with a number in it, and at most so many numbers more.
func around(r *rand.Rand, n, wide int) api.Span {
	before := r.IntN(wide + 1)
	return span(n-before, n-before+wide)
}

// Each result is the one that is found by going through all numbers.
func TestAllNumbers(t *testing.T) {
	r := rand.New(rand.NewPCG(31, 32))
	told := map[string]int{}
	for range 2000 {
		c, cuts := small(r)
		if _, e := pair.Power(c.Pair); e != api.OK {
			told["no truth"]++
			expect(t, "Seen", seen(c), failed(api.ErrNone))
			continue
		}
		set := 0
		for _, k := range stand(c) {
			set |= 1 << k
		}
		got := everything(c, cuts)
		for name, want := range map[string]outcome{
			"Seen": number(set), "Hurts": wantHurts(c, cuts), "Trim": wantTrim(c), "Why": wantWhy(c),
			"Eyes": wantEyes(t, c, cuts), "Room": wantRoom(t, c, cuts), "Depths": wantDepths(t, c, cuts),
		} {
			if got[name] != want {
				t.Fatalf("%s of %+v, and %v: %v, want %v", name, c, cuts, got[name], want)
			}
			told[kindOf(name, want)]++
		}
	}
	// The cards tell nothing of a case that they do not contain.
	for _, what := range []string{
		"no truth", "Hurts 0", "Hurts 1", "Hurts 2", "Hurts 3", "Hurts 4", "Hurts 5", "Why 0", "Why 1", "Why 2", "Why 3",
		"Trim", "Trim refused", "Eyes", "Eyes none", "Room", "Room none", "Depths", "Depths none",
	} {
		if told[what] < 10 {
			t.Errorf("%s: just %d cards, of %v", what, told[what], told)
		}
	}
}

// kindOf names which kind of outcome a function has.
func kindOf(name string, o outcome) string {
	switch {
	case name == "Hurts":
		return fmt.Sprint(name, " ", o.numbers[1])
	case name == "Why":
		return fmt.Sprint(name, " ", o.numbers[0])
	case o.e == api.ErrNone:
		return name + " none"
	case o.e == api.ErrRefuse:
		return name + " refused"
	}
	return name
}
