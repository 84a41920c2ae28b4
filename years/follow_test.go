package years_test

import (
	"math"
	"math/rand/v2"
	"slices"
	"testing"

	"pairworks/api"
)

// truth is what is true of a glacier: the distance, the place above the middle and the height of each thing in both years; the distance 0: it is not known.
type truth struct {
	far, place, high [2][]int
}

// truePair adds a pair of a year to a truth, with things so far away, and this height above the middle.
func truePair(r *rand.Rand, w *truth, year, focal, base int) api.Pair {
	p := api.Pair{Focal: around(r, focal, r.IntN(20)), Base: around(r, base, r.IntN(3)), Tilt: r.IntN(20), Near: 2000}
	p.Focal, p.Base = span(max(1, p.Focal.Lo), p.Focal.Hi), span(max(1, p.Base.Lo), p.Base.Hi)
	p.Far = 200000
	power := p.Focal.Lo*p.Base.Lo + r.IntN(p.Focal.Hi*p.Base.Hi-p.Focal.Lo*p.Base.Lo+1)
	for k, far := range w.far[year] {
		wide, left, y := r.IntN(3), r.IntN(500)-250, w.place[year][k]
		if far == 0 {
			p.Things = append(p.Things, at(span(-9, -1), span(y, y)))
			continue
		}
		n := power / far
		t := api.Thing{Left: place(around(r, left+n, wide), around(r, y, wide)), Right: place(around(r, left, wide), around(r, y, 3))}
		if r.IntN(4) == 0 {
			t.Far = far
		}
		p.Things = append(p.Things, t)
		w.high[year] = append(w.high[year], 0)
		w.high[year][k] = rounded(y*far, focal)
	}
	return p
}

// trulyGlacier returns a truth, and a glacier whose spans contain it.
func trulyGlacier(r *rand.Rand) (api.Glacier, truth) {
	var w truth
	for range r.IntN(7) {
		far, y := 4000+r.IntN(20000), r.IntN(200)-100
		second, higher := far+r.IntN(4000)-2500, y+r.IntN(5)-2
		if r.IntN(2) == 0 {
			second, higher = far, y
		}
		w.far[0], w.far[1] = append(w.far[0], far), append(w.far[1], max(2000, second))
		w.place[0], w.place[1] = append(w.place[0], y), append(w.place[1], higher)
		w.high[0], w.high[1] = append(w.high[0], 0), append(w.high[1], 0)
	}
	focal, base, first := 2000+r.IntN(10000), 50+r.IntN(300), r.IntN(2000)
	g := api.Glacier{FirstDay: first, SecondDay: first + 1 + r.IntN(2000)}
	g.First, g.Second = truePair(r, &w, 0, focal, base), truePair(r, &w, 1, focal, base)
	return g, w
}

func holds(s api.Span, n int) bool { return s.Lo <= n && n <= s.Hi }

// What is true is within all that is told.
func TestTruthsAreWithin(t *testing.T) {
	r := rand.New(rand.NewPCG(71, 72))
	stayed := 0
	for range 2000 {
		g, w := trulyGlacier(r)
		least := 0
		for k := range w.far[0] {
			least = min(least, w.far[1][k]-w.far[0][k])
			if k == 0 {
				least = w.far[1][k] - w.far[0][k]
			}
		}
		told, quick := stays(g), fastest(g)
		if told.e != api.OK || quick.e != api.OK {
			t.Fatalf("%v has the errors %d and %d", g, told.e, quick.e)
		}
		for k := range w.far[0] {
			moves, sinks := w.far[1][k]-w.far[0][k], w.high[0][k]-w.high[1][k]
			expectTrue(t, g, w, k)
			stays := moves == 0 && sinks == 0
			if stays {
				stayed++
			}
			if stays && told.numbers[1]>>k&1 == 0 || !stays && told.numbers[0]>>k&1 != 0 {
				t.Fatalf("the thing %d of %v moved by %d and sank by %d, but %v is told", k, g, moves, sinks, told)
			}
			if moves == least && quick.numbers[0]>>k&1 == 0 {
				t.Fatalf("the thing %d of %v is the fastest, but %v is told", k, g, quick)
			}
		}
	}
	if stayed < 1000 {
		t.Errorf("just %d things stayed", stayed)
	}
}

// expectTrue looks at what is told of one thing.
func expectTrue(t *testing.T, g api.Glacier, w truth, k int) {
	t.Helper()
	first, second := w.far[0][k], w.far[1][k]
	high, n := heights(g, k).spans, g.SecondDay-g.FirstDay
	if s := moved(g, k); s.e != api.OK || !holds(s.spans[0], second-first) {
		t.Fatalf("the thing %d of %v moved by %d, but %v is told", k, g, second-first, s)
	}
	if !holds(high[0], w.high[0][k]) || !holds(high[1], w.high[1][k]) || !holds(sank(g, k).spans[0], w.high[0][k]-w.high[1][k]) {
		t.Fatalf("the thing %d of %v was %d and %d high, but %v is told", k, g, w.high[0][k], w.high[1][k], high)
	}
	if s := rate(g, k).spans[0]; s.Lo*n > (second-first)*api.YearDays || s.Hi*n < (second-first)*api.YearDays {
		t.Fatalf("the thing %d of %v moved by %d, but %v a year is told", k, g, second-first, s)
	}
	for _, far := range []int{0, second / 2, second - 1, second, first} {
		told := arrives(g, k, far)
		day := truths{g: g}.arrival(first, second, far)
		switch {
		case day == never && told.e == api.OK && told.numbers[1] != api.NoDay:
			t.Fatalf("the thing %d of %v is never at %d, but %v is told", k, g, far, told)
		case day != never && (told.e != api.OK || told.numbers[0] > day || told.numbers[1] != api.NoDay && told.numbers[1] < day):
			t.Fatalf("the thing %d of %v is at %d on the day %d, but %v is told", k, g, far, day, told)
		}
	}
}

// Things that truly moved alike are not more than are told.
func TestTrulyAlike(t *testing.T) {
	r := rand.New(rand.NewPCG(73, 74))
	for range 1000 {
		g, w := trulyGlacier(r)
		even := r.IntN(300)
		told := alike(g, even)
		most := 0
		for k := range w.far[0] {
			many, from := 0, w.far[1][k]-w.far[0][k]
			for other := range w.far[0] {
				if n := w.far[1][other] - w.far[0][other]; from <= n && n <= from+even {
					many++
				}
			}
			most = max(most, many)
		}
		if got := members(told.numbers[0]); told.e != api.OK || got < most {
			t.Fatalf("%d things of %v moved alike, but %v is told", most, g, told)
		}
	}
}

func members(set int) int {
	n := 0
	for ; set != 0; set &= set - 1 {
		n++
	}
	return n
}

// clone returns a glacier with things of its own.
func clone(g api.Glacier) api.Glacier {
	g.First.Things, g.Second.Things = slices.Clone(g.First.Things), slices.Clone(g.Second.Things)
	return g
}

// narrower returns a span within a span.
func narrower(r *rand.Rand, s api.Span) api.Span {
	lo := s.Lo + r.IntN(s.Hi-s.Lo+1)
	return span(lo, lo+r.IntN(s.Hi-lo+1))
}

// narrow narrows a span of a pair.
func narrow(r *rand.Rand, p *api.Pair) {
	list := []*api.Span{&p.Focal, &p.Base}
	if len(p.Things) > 0 {
		x := &p.Things[r.IntN(len(p.Things))]
		list = append(list, &x.Left.X, &x.Left.Y, &x.Right.X, &x.Right.Y)
	}
	s := list[r.IntN(len(list))]
	*s = narrower(r, *s)
}

func isWithin(s, wide api.Span) bool { return wide.Lo <= s.Lo && s.Hi <= wide.Hi }

// With narrower spans no span is wider, and no more things can stay.
func TestNarrowerSpans(t *testing.T) {
	r := rand.New(rand.NewPCG(75, 76))
	narrowed := 0
	for range 3000 {
		g, _ := trulyGlacier(r)
		if r.IntN(2) == 0 {
			g = small(r)
		}
		n := clone(g)
		for range 3 {
			narrow(r, &n.First)
			narrow(r, &n.Second)
		}
		now, before := stays(n), stays(g)
		if now.e != api.OK {
			continue
		}
		if before.e != api.OK || now.numbers[1]&^before.numbers[1] != 0 {
			t.Fatalf("%v can stay of %v, but just %v of %v", now, n, before, g)
		}
		for k := range g.First.Things {
			wide := everything(g, k, 0, 0)
			for name, got := range everything(n, k, 0, 0) {
				if !withThing(name) || name == "Arrives" || got.e != api.OK {
					continue
				}
				if wide[name].e != api.OK || !isWithin(got.spans[0], wide[name].spans[0]) || !isWithin(got.spans[1], wide[name].spans[1]) {
					t.Fatalf("%s of %d of %v is %v, but %v of %v", name, k, n, got, wide[name], g)
				}
				if got != wide[name] {
					narrowed++
				}
			}
		}
	}
	if narrowed < 1000 {
		t.Errorf("just %d spans are narrower", narrowed)
	}
}

func turnedRound(o outcome) outcome {
	o.spans[0] = span(-o.spans[0].Hi, -o.spans[0].Lo)
	return o
}

// If both pairs change places each thing moved and sank by as much the other way, and as fast.
func TestBackInTime(t *testing.T) {
	r := rand.New(rand.NewPCG(77, 78))
	for range 1500 {
		g := small(r)
		back := api.Glacier{First: g.Second, Second: g.First, FirstDay: api.MaxDay - g.SecondDay, SecondDay: api.MaxDay - g.FirstDay}
		for k := range g.First.Things {
			expect(t, "Moved, back in time", moved(back, k), turnedRound(moved(g, k)))
			expect(t, "Sank, back in time", sank(back, k), turnedRound(sank(g, k)))
			expect(t, "Rate, back in time", rate(back, k), turnedRound(rate(g, k)))
			one, two := heights(back, k), heights(g, k)
			expect(t, "Heights, back in time", one, outcome{spans: [2]api.Span{two.spans[1], two.spans[0]}, e: two.e})
		}
		expect(t, "Stays, back in time", stays(back), stays(g))
		expect(t, "Alike, back in time", alike(back, 20), alike(g, 20))
	}
}

// If it takes twice as many days a thing is half as fast; nothing else that is no day changes.
func TestTwiceAsManyDays(t *testing.T) {
	r := rand.New(rand.NewPCG(79, 80))
	for range 1500 {
		g := small(r)
		slow := changed(g, days(g.FirstDay, 2*g.SecondDay-g.FirstDay))
		for k := range g.First.Things {
			got := everything(slow, k, 9, 1990)
			for name, want := range everything(g, k, 9, 1990) {
				switch name {
				case "Rate":
					s := want.spans[0]
					expect(t, "Rate, in twice as many days", got[name], outcome{spans: [2]api.Span{span(rounded(s.Lo, 2), -rounded(-s.Hi, 2))}, e: want.e})
				case "Arrives":
				default:
					expect(t, name+", in twice as many days", got[name], want)
				}
			}
		}
	}
}

// Arguments are only read, and the same call has the same result.
func TestArgumentsAreOnlyRead(t *testing.T) {
	r := rand.New(rand.NewPCG(81, 82))
	for range 300 {
		g := small(r)
		first, second := append(slices.Clone(g.First.Things), near(), far()), append(slices.Clone(g.Second.Things), near(), far())
		many := len(g.First.Things)
		before, after := slices.Clone(first), slices.Clone(second)
		g.First.Things, g.Second.Things = first[:many], second[:many]
		told := everything(g, 0, 9, 1990)
		for name, again := range everything(g, 0, 9, 1990) {
			expect(t, name+", asked again", again, told[name])
		}
		if !slices.Equal(first, before) || !slices.Equal(second, after) {
			t.Fatalf("the things of %v were changed", g)
		}
	}
}

// A nil list of things is an empty one.
func TestNilList(t *testing.T) {
	empty, none := flat(), flat()
	empty.Things, none.Things = []api.Thing{}, nil
	want := everything(between(none, none), 0, 0, 0)
	for _, g := range []api.Glacier{between(empty, empty), between(none, empty), between(empty, none)} {
		for name, got := range everything(g, 0, 0, 0) {
			expect(t, name+" of nil", got, want[name])
		}
	}
}

// Each function ends, and does not panic, whatever the numbers are; with an error there is no result.
func TestAnyNumbers(t *testing.T) {
	r := rand.New(rand.NewPCG(83, 84))
	strange := func() int {
		return []int{math.MinInt, -4001, -4000, -1, 0, 1, 2, 12, 1999, 2000, 4000, 10000, 50000, 50001, 1 << 16, 1<<16 + 1, 1 << 30, 1<<30 + 1, math.MaxInt}[r.IntN(19)]
	}
	numbers := []func(g *api.Glacier, n int){
		func(g *api.Glacier, n int) { g.FirstDay = n }, func(g *api.Glacier, n int) { g.SecondDay = n },
		func(g *api.Glacier, n int) { g.First.Near = n }, func(g *api.Glacier, n int) { g.First.Far = n },
		func(g *api.Glacier, n int) { g.Second.Focal.Lo = n }, func(g *api.Glacier, n int) { g.Second.Focal.Hi = n },
		func(g *api.Glacier, n int) { g.Second.Base.Hi = n }, func(g *api.Glacier, n int) { g.First.Tilt = n },
		func(g *api.Glacier, n int) { g.Second.Far = n; g.First.Far = n },
		func(g *api.Glacier, n int) {
			g.First.Things = append(g.First.Things, at(span(n, strange()), span(0, 0)))
		},
		func(g *api.Glacier, n int) {
			g.First.Things = append(g.First.Things, at(span(0, 9), span(strange(), n)))
			g.Second.Things = append(g.Second.Things, mark(n, span(-4000, 4000)))
		},
	}
	for range 3000 {
		g := clone(small(r))
		for range r.IntN(4) {
			numbers[r.IntN(len(numbers))](&g, strange())
		}
		for name, got := range everything(g, strange(), strange(), strange()) {
			if got.e != api.OK {
				expect(t, name+" with an error", got, failed(got.e))
			}
		}
	}
}

// The greatest numbers, and as many things as can be.
func TestGreatestNumbers(t *testing.T) {
	g := changed(between(widest(), widest()), days(0, api.MaxDay))
	for len(g.First.Things) < api.MaxThings {
		g.First.Things = append(g.First.Things, g.First.Things[1])
	}
	g.Second.Things = g.First.Things
	all := 1<<api.MaxThings - 1
	expect(t, "Stays", stays(g), number(0, all))
	expect(t, "Fastest", fastest(g), number(all))
	expect(t, "Alike", alike(g, 0), number(all))
	expect(t, "Moved", moved(g, 1), is(span(2000-api.MaxFar, api.MaxFar-2000)))
	expect(t, "Rate", rate(g, 1), is(span(rounded((2000-api.MaxFar)*365, api.MaxDay), -rounded((2000-api.MaxFar)*365, api.MaxDay))))
	expect(t, "Arrives at 0", arrives(g, 1, 0), failed(api.ErrNone))
	soon := changed(g, days(0, 100))
	expect(t, "Arrives at 0, soon", arrives(soon, 1, 0), number(101, api.NoDay))
}
