package chart_test

import (
	"math/bits"
	"math/rand/v2"
	"testing"

	"pairworks/api"
)

const unknown = 1 << 50

// bounds is by how much each station lies at most beyond each other one, in one direction.
type bounds [api.MaxStations][api.MaxStations]int

// boundsOf narrows the bounds of some sights by each station between two others; it returns false if there is no truth.
func boundsOf(c api.Chart, sights int, tells func(api.Sight) api.Span) (bounds, bool) {
	var b bounds
	for i := range b {
		for j := range b {
			if i != j {
				b[i][j] = unknown
			}
		}
	}
	for k, s := range c.Sights {
		if sights>>k&1 != 0 {
			b[s.From][s.To] = min(b[s.From][s.To], tells(s).Hi)
			b[s.To][s.From] = min(b[s.To][s.From], -tells(s).Lo)
		}
	}
	for m := range c.Stations {
		for i := range c.Stations {
			for j := range c.Stations {
				if b[i][m] != unknown && b[m][j] != unknown {
					b[i][j] = min(b[i][j], b[i][m]+b[m][j])
				}
			}
		}
	}
	for k := range b {
		if b[k][k] < 0 {
			return b, false
		}
	}
	return b, true
}

// boundsOfBoth returns the bounds in both directions.
func boundsOfBoth(c api.Chart, sights int) (both [2]bounds, can bool) {
	east, canEast := boundsOf(c, sights, func(s api.Sight) api.Span { return s.East })
	north, canNorth := boundsOf(c, sights, func(s api.Sight) api.Span { return s.North })
	return [2]bounds{east, north}, canEast && canNorth
}

// byBounds returns what each function has to do, as bounds tell.
func byBounds(c api.Chart) (betweens map[[2]int]outcome, why, drop, idle outcome) {
	all := 1<<len(c.Sights) - 1
	both, can := boundsOfBoth(c, all)
	betweens = map[[2]int]outcome{}
	for a := range c.Stations {
		for b := range c.Stations {
			switch east, north := both[0], both[1]; {
			case !can:
				betweens[[2]int{a, b}] = failed(api.ErrNone)
			case east[a][b] == unknown:
				betweens[[2]int{a, b}] = failed(api.ErrDoubt)
			default:
				betweens[[2]int{a, b}] = lies(-east[b][a], east[a][b], -north[b][a], north[a][b])
			}
		}
	}
	if !can {
		idle = failed(api.ErrNone)
		why.e = api.ErrRefuse
		why.sights, drop.sights = all, all
		for s := range all {
			_, can := boundsOfBoth(c, s)
			if !can && bits.OnesCount(uint(s)) < bits.OnesCount(uint(why.sights)) {
				why.sights = s
			}
			if _, can := boundsOfBoth(c, all&^s); can && bits.OnesCount(uint(s)) < bits.OnesCount(uint(drop.sights)) {
				drop.sights = s
			}
		}
		return
	}
	for k := range c.Sights {
		if without, _ := boundsOfBoth(c, all&^(1<<k)); without == both {
			idle.sights |= 1 << k
		}
	}
	return
}

// aim returns a chart of the greatest size, whose sights are right with some places of the stations, except for so many of them.
func aim(r *rand.Rand, wrong int) api.Chart {
	c := stations(2 + r.IntN(7))
	far := 1 << r.IntN(25)
	spots := make([]api.Spot, c.Stations)
	for k := range spots {
		spots[k] = api.Spot{East: r.IntN(2*far) - far, North: r.IntN(2*far) - far}
	}
	around := func(n int) api.Span { return span(n-r.IntN(far/2+2), n+r.IntN(far/2+2)) }
	for k := range api.MaxSights - r.IntN(2) {
		from := r.IntN(c.Stations)
		other := (from + 1 + r.IntN(c.Stations-1)) % c.Stations
		s := api.Sight{From: from, To: other, East: around(spots[other].East - spots[from].East), North: around(spots[other].North - spots[from].North)}
		if k < wrong {
			s.East = around(r.IntN(4*far) - 2*far)
		}
		c.Sights = append(c.Sights, s)
	}
	r.Shuffle(len(c.Sights), func(a, b int) { c.Sights[a], c.Sights[b] = c.Sights[b], c.Sights[a] })
	return c
}

// Each result of a chart of the greatest size is the one that bounds tell.
func TestBounds(t *testing.T) {
	r := rand.New(rand.NewPCG(93, 94))
	n := kinds{}
	sizes := map[int]int{}
	for round := range 1200 {
		c := aim(r, round%4)
		betweens, reason, dropped, useless := byBounds(c)
		for ends, want := range betweens {
			expect(t, "Between", between(c, ends[0], ends[1]), want)
			n.count(want, "Between")
		}
		expect(t, "Why", why(c), reason)
		expect(t, "Drop", drop(c), dropped)
		expect(t, "Idle", idle(c), useless)
		n.count(reason, "Why")
		n.count(useless, "Idle")
		sizes[bits.OnesCount(uint(dropped.sights))]++
		if t.Failed() {
			t.Fatalf("of %+v", c)
		}
	}
	n.need(t, 200, "Between", "Between none", "Between doubt", "Why", "Why refused", "Idle of some", "Idle none")
	for many := range 4 {
		if sizes[many] < 20 {
			t.Errorf("only %d charts of which %d sights must be wrong: %v", sizes[many], many, sizes)
		}
	}
}
