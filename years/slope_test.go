package years

import (
	"math/rand/v2"
	"testing"

	"pairworks/api"
)

// rounded returns a number, divided and rounded down, found step by step.
func rounded(n, by int) int {
	q := n / by
	for q*by > n {
		q--
	}
	return q
}

// haveMet goes through all distances.
func haveMet(one, other slope, far span) bool {
	for d := far.Lo; d <= far.Hi; d++ {
		if rounded(one.rise*d, one.run) == rounded(other.rise*d, other.run) {
			return true
		}
	}
	return false
}

func expectMet(t *testing.T, one, other slope, far span) bool {
	t.Helper()
	want := haveMet(one, other, far)
	if got := one.meets(other, far); got != want {
		t.Fatalf("%v meets %v at %v: %v, want %v", one, other, far, got, want)
	}
	return want
}

func TestSmallSlopesMeet(t *testing.T) {
	for a := range 13 {
		for b := range 7 {
			for c := range 13 {
				for d := range 7 {
					for _, far := range []span{{1, 1}, {1, 3}, {2, 2}, {3, 9}, {5, 5}, {6, 7}, {11, 30}, {40, 60}} {
						expectMet(t, slope{a - 6, b + 1}, slope{c - 6, d + 1}, far)
					}
				}
			}
		}
	}
}

// Slopes that are nearly the same, near and far away, meet just if they do somewhere.
func TestNearSlopesMeet(t *testing.T) {
	r := rand.New(rand.NewPCG(65, 66))
	met := 0
	for range 60000 {
		run := 1 + r.IntN(api.MaxFocal)
		one := slope{r.IntN(2*api.MaxPlate+1) - api.MaxPlate, run}
		other := slope{one.rise + r.IntN(3) - 1, max(1, run-r.IntN(9))}
		if r.IntN(2) == 0 {
			// The same slope, or nearly so, told with other numbers.
			by := 1 + r.IntN(9)
			one = slope{r.IntN(300) - 150, 1 + r.IntN(5000)}
			other = slope{one.rise*by + r.IntN(3) - 1, one.run*by - r.IntN(2)}
			other.run = max(1, other.run)
		}
		lo := api.MaxShift + r.IntN(1<<r.IntN(30))
		far := span{lo, min(api.MaxFar, lo+r.IntN(40))}
		if expectMet(t, one, other, far) {
			met++
		}
	}
	if met < 5000 || met > 55000 {
		t.Errorf("%d of 60000 slopes meet", met)
	}
}

// A slope that is just below a whole number has another height than the whole number has, for as long as they are not 1 apart, and then as well.
func TestNeverMeet(t *testing.T) {
	for _, x := range []struct {
		one, other slope
		far        span
		want       bool
	}{
		{slope{49999, 50000}, slope{1, 1}, span{2000, api.MaxFar}, false},
		{slope{1, 1}, slope{49999, 50000}, span{2000, api.MaxFar}, false},
		{slope{0, 50000}, slope{1, 50000}, span{2000, api.MaxFar}, true},
		{slope{0, 50000}, slope{1, 50000}, span{49999, api.MaxFar}, true},
		{slope{0, 50000}, slope{1, 50000}, span{50000, api.MaxFar}, false},
		{slope{0, 50000}, slope{-1, 50000}, span{2000, api.MaxFar}, false},
		{slope{-1, 50000}, slope{-1, 49999}, span{2000, 50000}, true},
		{slope{-1, 50000}, slope{-1, 49999}, span{50000, 50000}, false},
		{slope{-1, 50000}, slope{-1, 49999}, span{50000, 50001}, true},
		{slope{4000, 1}, slope{4000, 1}, span{api.MaxFar, api.MaxFar}, true},
		{slope{4000, 1}, slope{3999, 1}, span{2000, api.MaxFar}, false},
		{slope{-4000, 1}, slope{-4000, 1}, span{2000, api.MaxFar}, true},
		{slope{1, 2}, slope{24999, 49999}, span{2000, 2000}, false},
		{slope{1, 2}, slope{24999, 49999}, span{2000, 2001}, true},
		{slope{1, 2}, slope{24999, 49999}, span{49999, api.MaxFar}, true},
		{slope{1, 2}, slope{24999, 49999}, span{50000, api.MaxFar}, false},
	} {
		if got := x.one.meets(x.other, x.far); got != x.want {
			t.Errorf("%v meets %v at %v: %v", x.one, x.other, x.far, got)
		}
	}
}

func TestFloors(t *testing.T) {
	r := rand.New(rand.NewPCG(67, 68))
	for range 20000 {
		many, step, start, by := 1+r.IntN(40), r.IntN(90), r.IntN(200), 1+r.IntN(60)
		want := 0
		for k := range many {
			want += (step*k + start) / by
		}
		if got := floors(many, step, start, by); got != want {
			t.Fatalf("floors of %d, %d, %d, %d are %d, want %d", many, step, start, by, got, want)
		}
	}
}

func TestDownAndUp(t *testing.T) {
	for n := -50; n <= 50; n++ {
		for by := 1; by < 12; by++ {
			if got := down(n, by); got != rounded(n, by) {
				t.Errorf("%d by %d, rounded down, is %d", n, by, got)
			}
			if got := up(n, by); got*by < n || (got-1)*by >= n {
				t.Errorf("%d by %d, rounded up, is %d", n, by, got)
			}
		}
	}
}

// hasStayed goes through all distances, places and focal lengths of a thing.
func hasStayed(t thing) bool {
	for d := max(t[0].far.Lo, t[1].far.Lo); d <= min(t[0].far.Hi, t[1].far.Hi); d++ {
		heights := map[int]bool{}
		for year, s := range t {
			for y := s.place.Lo; y <= s.place.Hi; y++ {
				for f := s.focal.Lo; f <= s.focal.Hi; f++ {
					h := rounded(y*d, f)
					if year == 1 && heights[h] {
						return true
					}
					if year == 0 {
						heights[h] = true
					}
				}
			}
		}
	}
	return false
}

// someSpan returns a span of at most so many numbers, in a limit.
func someSpan(r *rand.Rand, limit span, most int) span {
	lo := limit.Lo + r.IntN(limit.Hi-limit.Lo+1)
	return span{lo, min(limit.Hi, lo+r.IntN(most))}
}

// Whether a thing can have stayed is so as all distances, places and focal lengths tell, one by one.
func TestCanStay(t *testing.T) {
	r := rand.New(rand.NewPCG(69, 70))
	seen := map[bool]int{}
	for range 20000 {
		up, long := 1+r.IntN(1<<r.IntN(13)), 1+r.IntN(1<<r.IntN(16))
		places, focals := span{-min(up, api.MaxPlate), min(up, api.MaxPlate)}, span{max(1, long/2), min(long, api.MaxFocal)}
		distance := someSpan(r, span{api.MaxShift, api.MaxShift + 1<<r.IntN(29)}, 5)
		x := thing{
			{far: distance, place: someSpan(r, places, 7), focal: someSpan(r, focals, 9)},
			{far: span{distance.Lo - r.IntN(2), distance.Hi + r.IntN(2)}, place: someSpan(r, places, 7), focal: someSpan(r, focals, 9)},
		}
		if r.IntN(2) == 0 {
			x[1].place.Lo = max(places.Lo, x[0].place.Lo+r.IntN(3)-1)
			x[1].place.Hi = x[1].place.Lo + r.IntN(3)
		}
		want := hasStayed(x)
		if got := x.canStay(); got != want {
			t.Fatalf("%v can stay: %v, want %v", x, got, want)
		}
		seen[want]++
	}
	if seen[true] < 2000 || seen[false] < 2000 {
		t.Errorf("%d things can stay, and %d cannot", seen[true], seen[false])
	}
}

// The widest spans are asked about, too, without going through all of their numbers.
func TestCanStayEnds(t *testing.T) {
	all, farthest := span{1, 4000}, span{api.MaxFar, api.MaxFar}
	for _, x := range []struct {
		one, other sight
		want       bool
	}{
		{sight{place: all, focal: span{49999, 49999}}, sight{place: all, focal: span{50000, 50000}}, false},
		{sight{place: span{-4000, -1}, focal: span{49999, 49999}}, sight{place: span{-4000, -1}, focal: span{50000, 50000}}, false},
		{sight{place: span{-4000, 4000}, focal: span{1, 1}}, sight{place: span{-4000, 4000}, focal: span{50000, 50000}}, true},
		{sight{place: span{-4000, -1}, focal: span{1, 25000}}, sight{place: span{1, 4000}, focal: span{1, 50000}}, false},
		{sight{place: span{1, 2000}, focal: span{25000, 50000}}, sight{place: span{2001, 4000}, focal: span{1, 25012}}, false},
		{sight{place: span{1, 2000}, focal: span{25000, 50000}}, sight{place: span{2400, 2400}, focal: span{1, 29999}}, false},
		{sight{place: span{1, 2000}, focal: span{25000, 50000}}, sight{place: span{2400, 2400}, focal: span{1, 30000}}, true},
		{sight{place: all, focal: span{1, 50000}}, sight{place: all, focal: span{1, 50000}}, true},
	} {
		x.one.far, x.other.far = farthest, farthest
		if got := (thing{x.one, x.other}).canStay(); got != x.want {
			t.Errorf("%v and %v: %v", x.one, x.other, got)
		}
	}
}
