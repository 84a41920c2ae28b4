package chart_test

import (
	"math"
	"reflect"
	"testing"

	"pairworks/api"
	"pairworks/chart"
)

// set returns a set, by bits.
func set(list ...int) int {
	all := 0
	for _, k := range list {
		all |= 1 << k
	}
	return all
}

func span(lo, hi int) api.Span { return api.Span{Lo: lo, Hi: hi} }

func sight(from, to, east, eastHi, north, northHi int) api.Sight {
	return api.Sight{From: from, To: to, East: span(east, eastHi), North: span(north, northHi)}
}

// to returns a sight that tells just the east; to the north it is exact, at 0.
func to(from, to, lo, hi int) api.Sight { return sight(from, to, lo, hi, 0, 0) }

// stations returns a chart of so many stations.
func stations(n int, sights ...api.Sight) api.Chart { return api.Chart{Stations: n, Sights: sights} }

// sample returns the chart of the chapter's examples, with other sights.
func sample(more ...api.Sight) api.Chart {
	return stations(4, append([]api.Sight{
		sight(0, 1, 100, 104, 0, 2), sight(1, 2, 50, 52, -10, -8), sight(0, 2, 153, 160, -9, -5),
	}, more...)...)
}

// fourth returns the fourth sight of the chapter's examples.
func fourth() api.Sight { return sight(2, 1, -49, -45, 0, 20) }

// outcome is all results of a call.
type outcome struct {
	east, north api.Span
	sights      int
	e           api.Errno
}

func lies(east, eastHi, north, northHi int) outcome {
	return outcome{east: span(east, eastHi), north: span(north, northHi)}
}

func named(sights ...int) outcome { return outcome{sights: set(sights...)} }

func refused(sights ...int) outcome { return outcome{sights: set(sights...), e: api.ErrRefuse} }

func failed(e api.Errno) outcome { return outcome{e: e} }

func place(c api.Chart, station int) outcome {
	east, north, e := chart.Place(c, station)
	return outcome{east: east, north: north, e: e}
}

func between(c api.Chart, a, b int) outcome {
	east, north, e := chart.Between(c, a, b)
	return outcome{east: east, north: north, e: e}
}

func why(c api.Chart) outcome {
	sights, e := chart.Why(c)
	return outcome{sights: sights, e: e}
}

func drop(c api.Chart) outcome {
	sights, e := chart.Drop(c)
	return outcome{sights: sights, e: e}
}

func idle(c api.Chart) outcome {
	sights, e := chart.Idle(c)
	return outcome{sights: sights, e: e}
}

// drawn is all results of Draw.
type drawn struct {
	spots []api.Spot
	e     api.Errno
}

func draw(c api.Chart) drawn {
	spots, e := chart.Draw(c)
	return drawn{spots, e}
}

func undrawn(e api.Errno) drawn { return drawn{e: e} }

// fine returns a map: an east and a north for each station.
func fine(numbers ...int) drawn {
	var d drawn
	for k := 0; k < len(numbers); k += 2 {
		d.spots = append(d.spots, api.Spot{East: numbers[k], North: numbers[k+1]})
	}
	return d
}

func expect[T any](t *testing.T, what string, got, want T) {
	t.Helper()
	if !reflect.DeepEqual(got, want) {
		t.Errorf("%s: got %v, want %v", what, got, want)
	}
}

func TestExamples(t *testing.T) {
	c := sample()
	expect(t, "Place of 1", place(c, 1), lies(101, 104, 0, 2))
	expect(t, "Place of 2", place(c, 2), lies(153, 156, -9, -6))
	expect(t, "Place of 3", place(c, 3), failed(api.ErrDoubt))
	expect(t, "Between of 1 and 2", between(c, 1, 2), lies(50, 52, -10, -8))
	expect(t, "Between of 2 and 1", between(c, 2, 1), lies(-52, -50, 8, 10))
	expect(t, "Draw", draw(c), undrawn(api.ErrDoubt))
	three := sample()
	three.Stations = 3
	expect(t, "Draw with 3 stations", draw(three), fine(0, 0, 101, 0, 153, -9))
	expect(t, "Why", why(c), named())
	expect(t, "Drop", drop(c), named())
	expect(t, "Idle", idle(c), named())
	c = sample(fourth())
	expect(t, "Why with the fourth sight", why(c), refused(1, 3))
	expect(t, "Drop with the fourth sight", drop(c), named(1))
	expect(t, "Place of 1 with the fourth sight", place(c, 1), failed(api.ErrNone))
	c = sample()
	c.Sights[2] = sight(0, 2, 140, 170, -20, 0)
	expect(t, "Idle with a wider sight 2", idle(c), named(2))
}

func TestBetween(t *testing.T) {
	doubt := failed(api.ErrDoubt)
	ring := stations(4, to(0, 1, 10, 20), to(1, 2, 10, 20), to(3, 2, 10, 20), to(0, 3, 0, 30))
	for _, x := range []struct {
		what string
		c    api.Chart
		a, b int
		want outcome
	}{
		{"itself", stations(1), 0, 0, lies(0, 0, 0, 0)},
		{"itself, with sights", ring, 2, 2, lies(0, 0, 0, 0)},
		{"itself, without a link to the station 0", stations(2), 1, 1, lies(0, 0, 0, 0)},
		{"no sight", stations(2), 0, 1, doubt},
		{"one sight", stations(2, sight(0, 1, 3, 5, -7, 9)), 0, 1, lies(3, 5, -7, 9)},
		{"one sight, from its other end", stations(2, sight(0, 1, 3, 5, -7, 9)), 1, 0, lies(-5, -3, -9, 7)},
		{"one sight that looks back", stations(2, sight(1, 0, 3, 5, -7, 9)), 0, 1, lies(-5, -3, -9, 7)},
		{"two sights", stations(2, sight(0, 1, 3, 5, -7, 9), sight(0, 1, 4, 8, -9, 2)), 0, 1, lies(4, 5, -7, 2)},
		{"two sights, one of which looks back", stations(2, sight(0, 1, 3, 5, -7, 9), sight(1, 0, -8, -4, -2, 9)), 0, 1, lies(4, 5, -7, 2)},
		{"over another station", stations(3, sight(0, 1, 3, 5, -7, 9), sight(1, 2, 10, 20, 1, 2)), 0, 2, lies(13, 25, -6, 11)},
		{"over another station, one sight turned", stations(3, sight(0, 1, 3, 5, -7, 9), sight(2, 1, 10, 20, 1, 2)), 0, 2, lies(-17, -5, -9, 8)},
		{"both from a third station", stations(3, to(2, 0, 3, 5), to(2, 1, 10, 20)), 0, 1, lies(5, 17, 0, 0)},
		{"a circle narrows what is told", ring, 0, 3, lies(0, 30, 0, 0)},
		{"a circle narrows what is told, across", ring, 0, 2, lies(20, 40, 0, 0)},
		{"a circle narrows what is told, along it", ring, 1, 3, lies(-10, 10, 0, 0)},
		{"a circle narrows no sight of it", ring, 1, 2, lies(10, 20, 0, 0)},
		{"no station is linked with the station 0", stations(4, to(1, 2, 10, 20), to(2, 3, 10, 20)), 1, 3, lies(20, 40, 0, 0)},
		{"the station 0 is not linked", stations(4, to(1, 2, 10, 20), to(2, 3, 10, 20)), 0, 3, doubt},
		{"two parts", stations(4, to(0, 1, 10, 20), to(2, 3, 10, 20)), 1, 2, doubt},
		{"two parts, within the first", stations(4, to(0, 1, 10, 20), to(2, 3, 10, 20)), 0, 1, lies(10, 20, 0, 0)},
		{"two parts, within the second", stations(4, to(0, 1, 10, 20), to(2, 3, 10, 20)), 3, 2, lies(-20, -10, 0, 0)},
		{"no truth", sample(fourth()), 0, 1, failed(api.ErrNone)},
		{"no truth, as to itself", sample(fourth()), 1, 1, failed(api.ErrNone)},
		{"no truth, rather than a doubt", sample(fourth()), 0, 3, failed(api.ErrNone)},
		{"no truth of another part", stations(4, to(2, 3, 10, 20), to(2, 3, 21, 30)), 0, 0, failed(api.ErrNone)},
		{"no truth to the north", stations(2, sight(0, 1, 0, 9, 1, 2), sight(0, 1, 0, 9, 3, 4)), 0, 1, failed(api.ErrNone)},
	} {
		expect(t, x.what, between(x.c, x.a, x.b), x.want)
		if x.a == 0 {
			expect(t, "Place: "+x.what, place(x.c, x.b), x.want)
		}
	}
}

func TestDraw(t *testing.T) {
	for _, x := range []struct {
		what string
		c    api.Chart
		want drawn
	}{
		{"one station", stations(1), fine(0, 0)},
		{"two stations", stations(2, sight(0, 1, 3, 5, -7, 9)), fine(0, 0, 3, -7)},
		{"two stations, turned", stations(2, sight(1, 0, 3, 5, -7, 9)), fine(0, 0, -5, -9)},
		{"stations out of order", stations(3, to(2, 1, 3, 5), to(0, 2, 10, 20)), fine(0, 0, 13, 0, 10, 0)},
		{"least ones that cannot be by each sight alone", stations(3, to(0, 1, 0, 9), to(1, 2, 5, 5), to(0, 2, 8, 9)), fine(0, 0, 3, 0, 8, 0)},
		{"a station that is not linked", stations(3, to(0, 2, 10, 20)), undrawn(api.ErrDoubt)},
		{"the station 0 is not linked", stations(3, to(1, 2, 10, 20)), undrawn(api.ErrDoubt)},
		{"no sight", stations(2), undrawn(api.ErrDoubt)},
		{"no truth, rather than a doubt", sample(fourth()), undrawn(api.ErrNone)},
		{"no truth of a part that is not linked", stations(3, to(1, 2, 10, 20), to(2, 1, 10, 20)), undrawn(api.ErrNone)},
	} {
		expect(t, x.what, draw(x.c), x.want)
	}
}

func TestWhyAndDrop(t *testing.T) {
	for _, x := range []struct {
		what      string
		c         api.Chart
		why, drop outcome
	}{
		{"no sight", stations(1), named(), named()},
		{"no sight between two", stations(8), named(), named()},
		{"one sight", stations(2, sight(0, 1, 5, 5, -7, -7)), named(), named()},
		{"two that touch", stations(2, sight(0, 1, 0, 5, 0, 5), sight(0, 1, 5, 9, -5, 0)), named(), named()},
		{"two that do not, to the east", stations(2, sight(0, 1, 0, 4, 0, 5), sight(0, 1, 5, 9, 0, 5)), refused(0, 1), named(0)},
		{"two that do not, to the north", stations(2, sight(0, 1, 0, 5, 0, 4), sight(0, 1, 0, 5, 5, 9)), refused(0, 1), named(0)},
		{"two that touch from both ends", stations(2, to(0, 1, 0, 5), to(1, 0, -9, -5)), named(), named()},
		{"two that do not, from both ends", stations(2, to(0, 1, 0, 4), to(1, 0, -9, -5)), refused(0, 1), named(0)},
		{"three round a circle that closes", stations(3, to(0, 1, 10, 11), to(1, 2, 10, 11), to(0, 2, 22, 30)), named(), named()},
		{"three round one that does not", stations(3, to(0, 1, 10, 11), to(1, 2, 10, 11), to(0, 2, 23, 30)), refused(0, 1, 2), named(0)},
		{"three round one that does not, below", stations(3, to(0, 1, 10, 11), to(1, 2, 10, 11), to(2, 0, -19, -10)), refused(0, 1, 2), named(0)},
		{"an east and a north that close alone", stations(3, sight(0, 1, 1, 1, 0, 0), sight(1, 2, 0, 0, 2, 2), sight(0, 2, 1, 1, 2, 2)), named(), named()},
		{"two of three, the least number", stations(2, to(0, 1, 1, 2), to(0, 1, 3, 4), to(0, 1, 5, 6)), refused(0, 1), named(0, 1)},
		{"the one of three that is wrong", stations(2, to(0, 1, 1, 2), to(0, 1, 3, 4), to(0, 1, 0, 2)), refused(0, 1), named(1)},
		{"fewer sights rather than a lesser number", stations(3, to(0, 1, 0, 0), to(1, 2, 0, 0), to(0, 2, 1, 1), to(0, 2, 2, 2)), refused(2, 3), named(0, 2)},
		{"two parts", stations(4, to(0, 1, 0, 0), to(2, 3, 0, 0), to(2, 3, 5, 5), to(0, 1, 5, 5)), refused(1, 2), named(0, 1)},
		{"a lesser number rather than a lesser first sight", stations(4, to(0, 1, 0, 0), to(2, 3, 0, 0), to(2, 3, 5, 5), to(0, 1, 5, 5), to(2, 3, 0, 5)), refused(1, 2), named(0, 1)},
		{"one that is wrong by two circles", stations(4, to(0, 1, 10, 10), to(1, 2, 10, 10), to(0, 2, 99, 99), to(2, 3, 10, 10), to(0, 3, 30, 30)), refused(0, 1, 2), named(2)},
		{"not the first one, though it is in a circle", stations(3, to(0, 1, 0, 0), to(0, 2, 0, 0), to(0, 2, 9, 9), to(1, 2, 0, 0)), refused(1, 2), named(2)},
		{"a sight without which nothing changes", stations(3, to(1, 2, 7, 7), to(0, 1, 0, 0), to(0, 1, 9, 9)), refused(1, 2), named(1)},
	} {
		expect(t, "Why: "+x.what, why(x.c), x.why)
		expect(t, "Drop: "+x.what, drop(x.c), x.drop)
	}
}

func TestIdle(t *testing.T) {
	for _, x := range []struct {
		what string
		c    api.Chart
		want outcome
	}{
		{"no sight", stations(3), named()},
		{"one sight", stations(2, sight(0, 1, -1<<30, 1<<30, -1<<30, 1<<30)), named()},
		{"the same sight twice", stations(2, to(0, 1, 3, 5), to(0, 1, 3, 5)), named(0, 1)},
		{"the same sight, turned", stations(2, sight(0, 1, 3, 5, 1, 2), sight(1, 0, -5, -3, -2, -1)), named(0, 1)},
		{"a wider one", stations(2, to(0, 1, 3, 5), to(0, 1, 3, 6)), named(1)},
		{"a wider one to the other side", stations(2, to(0, 1, 3, 5), to(0, 1, 2, 5)), named(1)},
		{"one that is wider to the east, and narrower to the north", stations(2, sight(0, 1, 3, 5, 0, 9), sight(0, 1, 2, 6, 0, 8)), named()},
		{"both help", stations(2, to(0, 1, 3, 5), to(0, 1, 4, 6)), named()},
		{"each one of three alone", stations(2, to(0, 1, 3, 5), to(0, 1, 4, 6), to(0, 1, 4, 5)), named(0, 1, 2)},
		{"one that both others together tell", stations(2, to(0, 1, 3, 5), to(0, 1, 4, 6), to(0, 1, 3, 6)), named(2)},
		{"each one of two alone, though not both", stations(2, to(0, 1, 3, 4), to(0, 1, 4, 6), to(0, 1, 4, 7)), named(1, 2)},
		{"round a circle", stations(3, to(0, 1, 10, 11), to(1, 2, 10, 11), to(0, 2, 20, 22)), named(2)},
		{"round a circle, wider", stations(3, to(0, 1, 10, 11), to(1, 2, 10, 11), to(2, 0, -100, 0)), named(2)},
		{"round a circle, narrower below", stations(3, to(0, 1, 10, 11), to(1, 2, 10, 11), to(0, 2, 21, 22)), named()},
		{"round a circle, narrower above", stations(3, to(0, 1, 10, 11), to(1, 2, 10, 11), to(0, 2, 20, 21)), named()},
		{"another part", stations(4, to(2, 3, 0, 1), to(2, 3, 0, 2)), named(1)},
		{"no truth", stations(2, to(0, 1, 3, 5), to(0, 1, 6, 7), to(0, 1, 0, 9)), failed(api.ErrNone)},
	} {
		expect(t, x.what, idle(x.c), x.want)
	}
}

// chartsThatAreNotValid returns charts, by what is wrong with them.
func chartsThatAreNotValid() map[string]api.Chart {
	const reach = api.MaxReach
	good := to(0, 1, -5, 5)
	many := make([]api.Sight, 11)
	for k := range many {
		many[k] = good
	}
	return map[string]api.Chart{
		"no station":                   stations(0),
		"-1 stations":                  stations(-1),
		"9 stations":                   stations(9),
		"the least Stations":           stations(math.MinInt),
		"the greatest Stations":        stations(math.MaxInt),
		"11 sights":                    stations(2, many...),
		"From -1":                      stations(2, to(-1, 1, 0, 0)),
		"From 2 of 2":                  stations(2, to(2, 1, 0, 0)),
		"To -1":                        stations(2, to(0, -1, 0, 0)),
		"To 2 of 2":                    stations(2, to(0, 2, 0, 0)),
		"To 1 of 1":                    stations(1, to(0, 1, 0, 0)),
		"the greatest To":              stations(2, to(0, math.MaxInt, 0, 0)),
		"the least From":               stations(2, to(math.MinInt, 0, 0, 0)),
		"From and To the same":         stations(2, to(1, 1, 0, 0)),
		"East with Lo above Hi":        stations(2, sight(0, 1, 1, 0, 0, 0)),
		"North with Lo above Hi":       stations(2, sight(0, 1, 0, 0, 1, 0)),
		"East with Lo beyond":          stations(2, sight(0, 1, -reach-1, 0, 0, 0)),
		"East with Hi beyond":          stations(2, sight(0, 1, 0, reach+1, 0, 0)),
		"North with Lo beyond":         stations(2, sight(0, 1, 0, 0, -reach-1, 0)),
		"North with Hi beyond":         stations(2, sight(0, 1, 0, 0, 0, reach+1)),
		"East beyond, below":           stations(2, sight(0, 1, -reach-2, -reach-1, 0, 0)),
		"East beyond, above":           stations(2, sight(0, 1, reach+1, reach+2, 0, 0)),
		"East of the greatest numbers": stations(2, sight(0, 1, math.MinInt, math.MaxInt, 0, 0)),
		"East turned":                  stations(2, sight(0, 1, math.MaxInt, math.MinInt, 0, 0)),
		"the last sight":               stations(2, good, good, to(0, 1, 1, 0)),
	}
}

// everything calls each function, and returns what it does.
func everything(c api.Chart, a, b int) map[string]outcome {
	d := draw(c)
	return map[string]outcome{
		"Place": place(c, b), "Between": between(c, a, b), "Draw": {sights: len(d.spots), e: d.e},
		"Why": why(c), "Drop": drop(c), "Idle": idle(c),
	}
}

func TestChartsThatAreNotValid(t *testing.T) {
	for what, c := range chartsThatAreNotValid() {
		for _, station := range []int{0, -1, 8} {
			for name, got := range everything(c, 0, station) {
				expect(t, name+" with "+what, got, failed(api.ErrArg))
			}
		}
	}
}

func TestStationsThatAreNone(t *testing.T) {
	for what, c := range map[string]api.Chart{"a truth": sample(), "no truth": sample(fourth())} {
		for _, station := range []int{-1, 4, 8, math.MinInt, math.MaxInt} {
			expect(t, "Place with "+what, place(c, station), failed(api.ErrRange))
			expect(t, "Between with "+what, between(c, 3, station), failed(api.ErrRange))
			expect(t, "Between to one with "+what, between(c, station, 3), failed(api.ErrRange))
			expect(t, "Between of none with "+what, between(c, station, station), failed(api.ErrRange))
		}
	}
	expect(t, "Place of the last station", place(stations(4), 3), failed(api.ErrDoubt))
}

// long returns the chart of the most stations, one beyond the other, as far as can be.
func long() api.Chart {
	c := stations(api.MaxStations)
	for k := range api.MaxStations - 1 {
		c.Sights = append(c.Sights, sight(k, k+1, -api.MaxReach, api.MaxReach, api.MaxReach, api.MaxReach))
	}
	return c
}

func TestChartsAtTheLimits(t *testing.T) {
	const reach = api.MaxReach
	c := long()
	expect(t, "Place", place(c, 7), lies(-7*reach, 7*reach, 7*reach, 7*reach))
	expect(t, "Between", between(c, 7, 0), lies(-7*reach, 7*reach, -7*reach, -7*reach))
	expect(t, "Draw", draw(c).spots[7], api.Spot{East: -7 * reach, North: 7 * reach})
	expect(t, "Why", why(c), named())
	expect(t, "Idle", idle(c), named())
	c.Sights = append(c.Sights, sight(0, 7, -reach, reach, -reach, reach))
	expect(t, "Why of a circle of 8", why(c), refused(0, 1, 2, 3, 4, 5, 6, 7))
	expect(t, "Drop of a circle of 8", drop(c), named(0))
	expect(t, "Place of a circle of 8", place(c, 7), failed(api.ErrNone))
	c = stations(8)
	for k := range api.MaxSights {
		c.Sights = append(c.Sights, to(6, 7, k, k))
	}
	expect(t, "Why of 10 sights that differ", why(c), refused(0, 1))
	expect(t, "Drop of 10 sights that differ", drop(c), named(0, 1, 2, 3, 4, 5, 6, 7, 8))
	for k := range c.Sights {
		c.Sights[k] = to(6, 7, 0, 0)
	}
	expect(t, "Idle of 10 sights that do not", idle(c), named(0, 1, 2, 3, 4, 5, 6, 7, 8, 9))
}
