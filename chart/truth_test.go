package chart_test

import (
	"math/bits"
	"math/rand/v2"
	"testing"

	"pairworks/api"
)

// anyChart returns a chart with so many stations and sights at most, whose spans lie within so far.
func anyChart(r *rand.Rand, most, sights, far int) api.Chart {
	c := stations(1 + r.IntN(most))
	if c.Stations == 1 {
		return c
	}
	wide := r.IntN(2) == 0
	anySpan := func() api.Span {
		a, b := r.IntN(2*far+1)-far, r.IntN(2*far+1)-far
		if wide {
			a, b = min(a, r.IntN(far+1)-far), max(b, r.IntN(far+1))
		}
		return span(min(a, b), max(a, b))
	}
	for range r.IntN(sights + 1) {
		from := r.IntN(c.Stations)
		other := (from + 1 + r.IntN(c.Stations-1)) % c.Stations
		c.Sights = append(c.Sights, api.Sight{From: from, To: other, East: anySpan(), North: anySpan()})
	}
	return c
}

// row is where each station lies, in one direction, and the sights that are right with it.
type row struct {
	places [4]int
	right  int
}

func has(s api.Span, n int) bool { return s.Lo <= n && n <= s.Hi }

// rows returns all rows of places of stations that lie at most so far from the station 0.
func rows(c api.Chart, far int, tells func(api.Sight) api.Span) []row {
	list := []row{{}}
	for station := 1; station < c.Stations; station++ {
		var longer []row
		for _, one := range list {
			for place := -far; place <= far; place++ {
				one.places[station] = place
				longer = append(longer, one)
			}
		}
		list = longer
	}
	for k := range list {
		for n, s := range c.Sights {
			if has(tells(s), list[k].places[s.To]-list[k].places[s.From]) {
				list[k].right |= 1 << n
			}
		}
	}
	return list
}

// truths is all rows of a chart, to the east and to the north.
type truths struct {
	c      api.Chart
	linked [4][4]bool
	rows   [2][]row
}

func findTruths(c api.Chart, far int) truths {
	a := truths{c: c}
	a.rows[0] = rows(c, far, func(s api.Sight) api.Span { return s.East })
	a.rows[1] = rows(c, far, func(s api.Sight) api.Span { return s.North })
	for station := range c.Stations {
		a.linked[station][station] = true
	}
	for range c.Stations {
		for _, s := range c.Sights {
			for station := range c.Stations {
				a.linked[station][s.From] = a.linked[station][s.From] || a.linked[station][s.To]
				a.linked[station][s.To] = a.linked[station][s.From]
			}
		}
	}
	return a
}

func (a truths) all() int { return 1<<len(a.c.Sights) - 1 }

// many returns how many rows there are in each direction with which the sights are right.
func (a truths) many(sights int) [2]int {
	var many [2]int
	for d, list := range a.rows {
		for _, one := range list {
			if one.right&sights == sights {
				many[d]++
			}
		}
	}
	return many
}

// can returns whether the sights can all be right.
func (a truths) can(sights int) bool {
	many := a.many(sights)
	return many[0] > 0 && many[1] > 0
}

// covers returns the least span with all differences of two stations, in each direction.
func (a truths) covers(from, other int) [2]api.Span {
	var told [2]api.Span
	for d, list := range a.rows {
		first := true
		for _, one := range list {
			if one.right != a.all() {
				continue
			}
			n := one.places[other] - one.places[from]
			if first {
				told[d], first = span(n, n), false
			}
			told[d] = span(min(told[d].Lo, n), max(told[d].Hi, n))
		}
	}
	return told
}

func (a truths) between(from, other int) outcome {
	switch {
	case !a.can(a.all()):
		return failed(api.ErrNone)
	case !a.linked[from][other]:
		return failed(api.ErrDoubt)
	}
	told := a.covers(from, other)
	return outcome{east: told[0], north: told[1]}
}

func (a truths) draw() drawn {
	if !a.can(a.all()) {
		return undrawn(api.ErrNone)
	}
	var d drawn
	for station := range a.c.Stations {
		if !a.linked[0][station] {
			return undrawn(api.ErrDoubt)
		}
		told := a.covers(0, station)
		d.spots = append(d.spots, api.Spot{East: told[0].Lo, North: told[1].Lo})
	}
	return d
}

// fewest returns the set of the fewest sights that is as it is wanted; of several the least number.
func (a truths) fewest(wanted func(sights int) bool) int {
	best := -1
	for s := range a.all() + 1 {
		if (best < 0 || bits.OnesCount(uint(s)) < bits.OnesCount(uint(best))) && wanted(s) {
			best = s
		}
	}
	return best
}

func (a truths) why() outcome {
	if a.can(a.all()) {
		return named()
	}
	return outcome{sights: a.fewest(func(s int) bool { return !a.can(s) }), e: api.ErrRefuse}
}

func (a truths) drop() outcome {
	return outcome{sights: a.fewest(func(s int) bool { return a.can(a.all() &^ s) })}
}

func (a truths) idle() outcome {
	if !a.can(a.all()) {
		return failed(api.ErrNone)
	}
	var o outcome
	for k := range a.c.Sights {
		if a.many(a.all()&^(1<<k)) == a.many(a.all()) {
			o.sights |= 1 << k
		}
	}
	return o
}

// kinds counts the cases of a search.
type kinds map[string]int

func (n kinds) count(o outcome, what string) {
	switch {
	case o.e != api.OK:
		n[what+" "+map[api.Errno]string{api.ErrNone: "none", api.ErrDoubt: "doubt", api.ErrRefuse: "refused"}[o.e]]++
	case o.sights != 0:
		n[what+" of some"]++
	default:
		n[what]++
	}
}

func (n kinds) need(t *testing.T, most int, list ...string) {
	t.Helper()
	for _, what := range list {
		if n[what] < most {
			t.Errorf("only %d cases of %q: %v", n[what], what, n)
		}
	}
}

// Each result is the one that all places of the stations tell.
func TestTruths(t *testing.T) {
	const far = 2
	r := rand.New(rand.NewPCG(91, 92))
	n := kinds{}
	for range 3000 {
		c := anyChart(r, 4, 5, far)
		// A station that is not linked with the station 0 must have room to lie elsewhere, too.
		a := findTruths(c, far*(c.Stations-1)+1)
		for from := range c.Stations {
			for other := range c.Stations {
				want := a.between(from, other)
				n.count(want, "Between")
				expect(t, "Between", between(c, from, other), want)
			}
			expect(t, "Place", place(c, from), a.between(0, from))
		}
		expect(t, "Draw", draw(c), a.draw())
		n.count(outcome{e: a.draw().e}, "Draw")
		for what, x := range map[string][2]outcome{"Why": {why(c), a.why()}, "Drop": {drop(c), a.drop()}, "Idle": {idle(c), a.idle()}} {
			expect(t, what, x[0], x[1])
			n.count(x[1], what)
		}
		if t.Failed() {
			t.Fatalf("of %+v", c)
		}
	}
	n.need(t, 200, "Between", "Between none", "Between doubt", "Draw", "Draw none", "Draw doubt", "Why", "Why refused", "Drop", "Drop of some", "Idle", "Idle of some", "Idle none")
}
