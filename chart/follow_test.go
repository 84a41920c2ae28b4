package chart_test

import (
	"math"
	"math/bits"
	"math/rand/v2"
	"slices"
	"testing"

	"pairworks/api"
	"pairworks/chart"
)

func sizeOf(set int) int { return bits.OnesCount(uint(set)) }

// clone returns a chart with sights of its own.
func clone(c api.Chart) api.Chart {
	c.Sights = slices.Clone(c.Sights)
	return c
}

// with returns a chart with another sight.
func with(c api.Chart, s api.Sight) api.Chart {
	c = clone(c)
	c.Sights = append(c.Sights, s)
	return c
}

// only returns the chart that has just these sights of another one.
func only(c api.Chart, sights int) api.Chart {
	some := stations(c.Stations)
	for k, s := range c.Sights {
		if sights>>k&1 != 0 {
			some.Sights = append(some.Sights, s)
		}
	}
	return some
}

// isRight returns whether sights are right if stations lie on these spots.
func isRight(c api.Chart, spots []api.Spot) bool {
	return !slices.ContainsFunc(c.Sights, func(s api.Sight) bool {
		from, other := spots[s.From], spots[s.To]
		return !has(s.East, other.East-from.East) || !has(s.North, other.North-from.North)
	})
}

// anySpots returns some places of the stations of a chart, and has its sights contain them.
func anySpots(r *rand.Rand, c api.Chart, far int) []api.Spot {
	spots := make([]api.Spot, c.Stations)
	for k := 1; k < c.Stations; k++ {
		spots[k] = api.Spot{East: r.IntN(2*far) - far, North: r.IntN(2*far) - far}
	}
	around := func(n int) api.Span { return span(n-r.IntN(far), n+r.IntN(far)) }
	for k, s := range c.Sights {
		from, other := spots[s.From], spots[s.To]
		c.Sights[k].East, c.Sights[k].North = around(other.East-from.East), around(other.North-from.North)
	}
	return spots
}

// Wherever stations truly lie, they lie within their spans.
func TestWhereStationsTrulyLie(t *testing.T) {
	r := rand.New(rand.NewPCG(95, 96))
	told := 0
	for range 3000 {
		c := anyChart(r, api.MaxStations, api.MaxSights, 1)
		spots := anySpots(r, c, 20)
		expect(t, "Why", why(c), named())
		expect(t, "Drop", drop(c), named())
		for a := range c.Stations {
			for b := range c.Stations {
				got := between(c, a, b)
				if got.e == api.ErrDoubt {
					continue
				}
				told++
				if got.e != api.OK || !has(got.east, spots[b].East-spots[a].East) || !has(got.north, spots[b].North-spots[a].North) {
					t.Fatalf("%v does not tell where %d lies from %d in %+v: %v", got, b, a, c, spots)
				}
				turned := between(c, b, a)
				expect(t, "Between, turned", turned, lies(-got.east.Hi, -got.east.Lo, -got.north.Hi, -got.north.Lo))
			}
		}
		if d := draw(c); d.e == api.OK && !isRight(c, d.spots) {
			t.Fatalf("%v is not a truth of %+v", d, c)
		}
	}
	if told < 20000 {
		t.Errorf("only %d spans", told)
	}
}

// Both ends of each span are reached, in each direction, and nothing beyond them is.
func TestEndsAreReached(t *testing.T) {
	r := rand.New(rand.NewPCG(97, 98))
	spans := 0
	for range 1500 {
		c := anyChart(r, 5, api.MaxSights-1, 6)
		a, b := r.IntN(c.Stations), r.IntN(c.Stations)
		got := between(c, a, b)
		if got.e != api.OK || a == b {
			continue
		}
		spans++
		for _, east := range []int{got.east.Lo, got.east.Hi} {
			for _, north := range []int{got.north.Lo, got.north.Hi} {
				at := with(c, sight(a, b, east, east, north, north))
				expect(t, "Why at the ends", why(at), named())
			}
		}
		for _, beyond := range []api.Sight{
			sight(a, b, -api.MaxReach, got.east.Lo-1, -api.MaxReach, api.MaxReach), sight(a, b, got.east.Hi+1, api.MaxReach, -api.MaxReach, api.MaxReach),
			sight(a, b, -api.MaxReach, api.MaxReach, -api.MaxReach, got.north.Lo-1), sight(a, b, -api.MaxReach, api.MaxReach, got.north.Hi+1, api.MaxReach),
		} {
			expect(t, "Why beyond the ends", why(with(c, beyond)).e, api.ErrRefuse)
		}
		if t.Failed() {
			t.Fatalf("from %d to %d of %+v", a, b, c)
		}
	}
	if spans < 300 {
		t.Errorf("only %d spans", spans)
	}
}

// Of sights that are named one is wrong, though without any one of them the others can be right; without those that are dropped all can.
func TestNamedSights(t *testing.T) {
	r := rand.New(rand.NewPCG(99, 100))
	cases := 0
	for range 3000 {
		c := anyChart(r, 6, api.MaxSights, 3)
		all := 1<<len(c.Sights) - 1
		reason, gone := why(c), drop(c)
		expect(t, "Why of what stays", why(only(c, all&^gone.sights)), named())
		if (reason.e == api.OK) != (gone.sights == 0) || (reason.e == api.OK) != (reason.sights == 0) {
			t.Fatalf("it is not the same whether all sights of %+v can be right: %v, %v", c, reason, gone)
		}
		for k := range c.Sights {
			if gone.sights>>k&1 != 0 {
				expect(t, "Why, if one is not dropped", why(only(c, all&^gone.sights|1<<k)).e, api.ErrRefuse)
			}
			if reason.sights>>k&1 != 0 {
				expect(t, "Why without one of those that are named", why(only(c, reason.sights&^(1<<k))), named())
			}
		}
		if reason.e == api.ErrRefuse {
			cases++
			expect(t, "Why of those that are named", why(only(c, reason.sights)), outcome{sights: 1<<sizeOf(reason.sights) - 1, e: api.ErrRefuse})
			if reason.sights&gone.sights == 0 {
				t.Errorf("none of those that are named is dropped: %v, %v", reason, gone)
			}
		}
		if t.Failed() {
			t.Fatalf("of %+v", c)
		}
	}
	if cases < 300 {
		t.Errorf("only %d charts without a truth", cases)
	}
}

// harder returns a chart with a sight more, or a narrower one.
func harder(r *rand.Rand, c api.Chart, far int) api.Chart {
	if c.Stations > 1 && len(c.Sights) < api.MaxSights && r.IntN(3) == 0 {
		a := r.IntN(c.Stations)
		return with(c, sight(a, (a+1)%c.Stations, -far, r.IntN(far), -r.IntN(far), far))
	}
	c = clone(c)
	if len(c.Sights) == 0 {
		return c
	}
	s := &c.Sights[r.IntN(len(c.Sights))]
	s.East.Lo += r.IntN(s.East.Hi - s.East.Lo + 1)
	s.North.Hi -= r.IntN(s.North.Hi - s.North.Lo + 1)
	return c
}

func within(s, other api.Span) bool { return other.Lo <= s.Lo && s.Hi <= other.Hi }

// With a sight more, or a narrower one, no span is wider, and no fewer sights must be wrong.
func TestHarderCharts(t *testing.T) {
	r := rand.New(rand.NewPCG(101, 102))
	for range 3000 {
		c := anyChart(r, 5, api.MaxSights, 5)
		h := harder(r, c, 5)
		for a := range c.Stations {
			for b := range c.Stations {
				before, after := between(c, a, b), between(h, a, b)
				wider := before.e == api.OK && after.e == api.OK && !(within(after.east, before.east) && within(after.north, before.north))
				if wider || before.e == api.ErrNone && after.e != api.ErrNone || before.e == api.OK && after.e == api.ErrDoubt {
					t.Fatalf("%d from %d: %v of %+v, but %v of %+v", b, a, before, c, after, h)
				}
			}
		}
		if sizeOf(drop(h).sights) < sizeOf(drop(c).sights) {
			t.Fatalf("fewer sights of %+v must be wrong than of %+v", h, c)
		}
		if why(c).e == api.ErrRefuse && (why(h).e != api.ErrRefuse || sizeOf(why(h).sights) > sizeOf(why(c).sights)) {
			t.Fatalf("more sights of %+v cannot be right than of %+v", h, c)
		}
	}
}

func turned(s api.Span) api.Span { return span(-s.Hi, -s.Lo) }

// If sights are looked at from the other end, nothing changes.
func TestTurnedSights(t *testing.T) {
	r := rand.New(rand.NewPCG(103, 104))
	for range 2000 {
		c := anyChart(r, 5, api.MaxSights, 4)
		other := clone(c)
		every := r.IntN(2) == 0
		for k, s := range c.Sights {
			if every || r.IntN(2) == 0 {
				other.Sights[k] = api.Sight{From: s.To, To: s.From, East: turned(s.East), North: turned(s.North)}
			}
		}
		expect(t, "Draw", draw(other), draw(c))
		before := everything(c, 0, c.Stations-1)
		for name, got := range everything(other, 0, c.Stations-1) {
			expect(t, name, got, before[name])
		}
		for a := range c.Stations {
			for b := range c.Stations {
				expect(t, "Between", between(other, a, b), between(c, a, b))
			}
		}
		if t.Failed() {
			t.Fatalf("of %+v", c)
		}
	}
}

// If stations are numbered otherwise, only their numbers change.
func TestRenumberedStations(t *testing.T) {
	r := rand.New(rand.NewPCG(105, 106))
	for range 2000 {
		c := anyChart(r, 6, api.MaxSights, 4)
		number := r.Perm(c.Stations)
		if r.IntN(2) == 0 {
			number[slices.Index(number, 0)], number[0] = number[0], 0
		}
		other := clone(c)
		for k := range other.Sights {
			other.Sights[k].From, other.Sights[k].To = number[c.Sights[k].From], number[c.Sights[k].To]
		}
		expect(t, "Why", why(other), why(c))
		expect(t, "Drop", drop(other), drop(c))
		expect(t, "Idle", idle(other), idle(c))
		for a := range c.Stations {
			for b := range c.Stations {
				expect(t, "Between", between(other, number[a], number[b]), between(c, a, b))
			}
		}
		before, after := draw(c), draw(other)
		expect(t, "the error of Draw", after.e, before.e)
		for k := range before.spots {
			if number[0] == 0 {
				expect(t, "Draw", after.spots[number[k]], before.spots[k])
			}
		}
		if t.Failed() {
			t.Fatalf("of %+v by %v", c, number)
		}
	}
}

// reordered returns a set of sights of which the sight k comes from order[k].
func reordered(order []int, sights int) int {
	all := 0
	for k, from := range order {
		all |= sights >> from & 1 << k
	}
	return all
}

// The order of the sights makes no difference to the map, and to what tells nothing.
func TestOrder(t *testing.T) {
	r := rand.New(rand.NewPCG(107, 108))
	for range 2000 {
		c := anyChart(r, 5, api.MaxSights, 4)
		other := clone(c)
		order := r.Perm(len(c.Sights))
		for k, from := range order {
			other.Sights[k] = c.Sights[from]
		}
		expect(t, "Draw", draw(other), draw(c))
		for station := range c.Stations {
			expect(t, "Place", place(other, station), place(c, station))
		}
		useless := idle(c)
		expect(t, "Idle", idle(other), outcome{sights: reordered(order, useless.sights), e: useless.e})
		expect(t, "the error of Why", why(other).e, why(c).e)
		expect(t, "how many sights are named", sizeOf(why(other).sights), sizeOf(why(c).sights))
		expect(t, "how many sights are dropped", sizeOf(drop(other).sights), sizeOf(drop(c).sights))
		if t.Failed() {
			t.Fatalf("of %+v in the order %v", c, order)
		}
	}
}

// Arguments are only read, also behind the sights; results are new memory, and the same call has the same one.
func TestArgumentsAreOnlyRead(t *testing.T) {
	r := rand.New(rand.NewPCG(109, 110))
	for range 500 {
		c := anyChart(r, 5, api.MaxSights, 5)
		room := append(clone(c).Sights, to(1, 2, 3, 4), to(5, 6, 7, 8))
		before := slices.Clone(room)
		c.Sights = room[:len(c.Sights)]
		first := everything(c, 0, c.Stations-1)
		for name, again := range everything(c, 0, c.Stations-1) {
			expect(t, name+", asked again", again, first[name])
		}
		if !slices.Equal(room, before) {
			t.Fatalf("%v was changed to %v", before, room)
		}
		one, _ := chart.Draw(c)
		same := slices.Clone(one)
		other, _ := chart.Draw(c)
		for k := range other {
			other[k] = api.Spot{East: 99, North: 99}
		}
		if !slices.Equal(one, same) {
			t.Fatal("two maps share memory")
		}
	}
	for name, got := range everything(stations(1, []api.Sight{}...), 0, 0) {
		expect(t, name+" with an empty list", got, everything(api.Chart{Stations: 1}, 0, 0)[name])
	}
}

// No call panics, whatever it is given, and with an error all other results are zero, but for Why.
func TestAnyNumbers(t *testing.T) {
	r := rand.New(rand.NewPCG(111, 112))
	numbers := []int{math.MinInt, -api.MaxReach - 1, -api.MaxReach, -1, 0, 1, 2, 7, 8, 9, api.MaxReach, api.MaxReach + 1, math.MaxInt}
	any := func() int { return numbers[r.IntN(len(numbers))] }
	small := func() int { return r.IntN(3) }
	valid := 0
	for range 20000 {
		c := stations(3)
		pick := []func() int{any, small, small, small, small, small}
		for range r.IntN(12) {
			n := func() int { return pick[r.IntN(len(pick))]() }
			c.Sights = append(c.Sights, sight(r.IntN(3), n(), -n(), 2+n(), -n(), 2+n()))
		}
		if r.IntN(10) == 0 {
			c.Stations = any()
		}
		if why(c).e != api.ErrArg {
			valid++
		}
		for name, got := range everything(c, any(), any()) {
			if got.e != api.OK && name != "Why" {
				expect(t, name, got, failed(got.e))
			}
			if name == "Why" && got.e != api.ErrRefuse && got.sights != 0 {
				t.Errorf("Why: %v", got)
			}
		}
	}
	if valid < 1000 {
		t.Errorf("only %d charts are valid", valid)
	}
}
