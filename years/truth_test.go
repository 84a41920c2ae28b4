package years_test

import (
	"math"
	"math/bits"
	"math/rand/v2"
	"slices"
	"sort"
	"testing"

	"pairworks/api"
	"pairworks/pair"
)

// stand is all that can be of a thing in one pair: each distance, with the heights at it.
type stand map[int]map[int]bool

func rounded(n, by int) int {
	q := n / by
	for q*by > n {
		q--
	}
	return q
}

// stands returns all that can be of the thing k of a pair; nothing if it is not seen.
func stands(p api.Pair, k int) stand {
	far, e := pair.Distance(p, k)
	if e != api.OK {
		return nil
	}
	all := stand{}
	for d := far.Lo; d <= far.Hi; d++ {
		all[d] = map[int]bool{}
		for y := p.Things[k].Left.Y.Lo; y <= p.Things[k].Left.Y.Hi; y++ {
			for f := p.Focal.Lo; f <= p.Focal.Hi; f++ {
				all[d][rounded(y*d, f)] = true
			}
		}
	}
	return all
}

// cover returns the least span with all numbers.
func cover(numbers map[int]bool) api.Span {
	s := span(math.MaxInt, math.MinInt)
	for n := range numbers {
		s = span(min(s.Lo, n), max(s.Hi, n))
	}
	return s
}

// distances returns the distances that can be.
func (s stand) distances() map[int]bool {
	all := map[int]bool{}
	for d := range s {
		all[d] = true
	}
	return all
}

// heights returns the heights that can be, at any distance.
func (s stand) heights() map[int]bool {
	all := map[int]bool{}
	for _, list := range s {
		for h := range list {
			all[h] = true
		}
	}
	return all
}

// differences returns each number of a set less each of another one.
func differences(a, b map[int]bool) map[int]bool {
	all := map[int]bool{}
	for m := range a {
		for n := range b {
			all[m-n] = true
		}
	}
	return all
}

// truths is all that can be of the things of a glacier, in the first pair and in the second one, by their numbers; just of those that are seen.
type truths struct {
	g      api.Glacier
	stands map[int][2]stand
	moves  map[int]map[int]bool
}

func findTruths(g api.Glacier) truths {
	all := truths{g, map[int][2]stand{}, map[int]map[int]bool{}}
	for k := range g.First.Things {
		first, second := stands(g.First, k), stands(g.Second, k)
		if first != nil && second != nil {
			all.stands[k] = [2]stand{first, second}
			all.moves[k] = differences(second.distances(), first.distances())
		}
	}
	return all
}

// of returns what is told of a thing, if it is seen.
func (a truths) of(k int, tell func(first, second stand) outcome) outcome {
	if s, ok := a.stands[k]; ok {
		return tell(s[0], s[1])
	}
	return failed(api.ErrRefuse)
}

func (a truths) moved(k int) outcome {
	return a.of(k, func(first, second stand) outcome { return is(cover(a.moves[k])) })
}

func (a truths) heights(k int) outcome {
	return a.of(k, func(first, second stand) outcome { return is(cover(first.heights()), cover(second.heights())) })
}

func (a truths) sank(k int) outcome {
	return a.of(k, func(first, second stand) outcome {
		one, two := cover(first.heights()), cover(second.heights())
		return is(span(one.Lo-two.Hi, one.Hi-two.Lo))
	})
}

func (a truths) rate(k int) outcome {
	return a.of(k, func(first, second stand) outcome {
		s, n := cover(a.moves[k]), a.g.SecondDay-a.g.FirstDay
		return is(span(rounded(s.Lo*365, n), -rounded(-s.Hi*365, n)))
	})
}

// stays goes through all distances and heights of each thing.
func (a truths) stays() outcome {
	surely, can := 0, 0
	for k, s := range a.stands {
		always, some := true, false
		for d, heights := range s[0] {
			for e, others := range s[1] {
				for h := range heights {
					always = always && d == e && len(heights) == 1 && len(others) == 1 && others[h]
					some = some || d == e && others[h]
				}
			}
		}
		if always {
			surely |= 1 << k
		}
		if some {
			can |= 1 << k
		}
	}
	return number(surely, can)
}

// hits returns whether each of some things can have moved by a number from lo to hi.
func (a truths) hits(things, lo, hi int) bool {
	for k, moves := range a.moves {
		hit := things>>k&1 == 0
		for n := range moves {
			hit = hit || lo <= n && n <= hi
		}
		if !hit {
			return false
		}
	}
	return true
}

func (a truths) fastest() outcome {
	found := 0
	for k, moves := range a.moves {
		for n := range moves {
			if a.hits(1<<12-1, n, math.MaxInt) {
				found |= 1 << k
			}
		}
	}
	return number(found)
}

func (a truths) alike(even int) outcome {
	best, seen, starts := 0, 0, map[int]bool{}
	for k, moves := range a.moves {
		seen |= 1 << k
		for n := range moves {
			starts[n] = true
		}
	}
	for s := range 1 << len(a.g.First.Things) {
		if s&^seen != 0 || bits.OnesCount(uint(s)) <= bits.OnesCount(uint(best)) {
			continue
		}
		for n := range starts {
			if a.hits(s, n, n+even) {
				best = s
				break
			}
		}
	}
	return number(best)
}

// never is after each day.
const never = math.MaxInt

// arrival goes from day to day until a thing is there.
func (a truths) arrival(first, second, far int) int {
	n := a.g.SecondDay - a.g.FirstDay
	later := sort.Search(api.MaxDay-a.g.SecondDay+1, func(k int) bool { return second*n+(second-first)*k <= far*n })
	switch {
	case second <= far:
		return a.g.SecondDay
	case second >= first || a.g.SecondDay+later > api.MaxDay:
		return never
	}
	return a.g.SecondDay + later
}

func (a truths) arrives(k, far int) outcome {
	return a.of(k, func(first, second stand) outcome {
		soonest, last := never, 0
		for d := range first {
			for e := range second {
				day := a.arrival(d, e, far)
				soonest, last = min(soonest, day), max(last, day)
			}
		}
		switch never {
		case soonest:
			return failed(api.ErrNone)
		case last:
			return number(soonest, api.NoDay)
		}
		return number(soonest, last)
	})
}

// around returns a span with a number.
func around(r *rand.Rand, n, wide int) api.Span {
	lo := n - r.IntN(wide+1)
	return span(lo, n+r.IntN(wide+1))
}

// smallPair returns a pair with few distances and few focal lengths; its things stand about at the distances and places that are told.
func smallPair(r *rand.Rand, kind int, far, y []int) api.Pair {
	p := api.Pair{
		Focal: []api.Span{span(100, 106), span(1000, 1005), span(2000, 2001), span(30, 31)}[kind],
		Base:  []api.Span{span(40, 44), span(100, 101), span(2000, 2001), span(700, 701)}[kind],
		Tilt:  r.IntN(3), Near: 2000,
	}
	p.Far = p.Near + []int{60, 60, 8, 90}[kind]
	power := p.Focal.Lo*p.Base.Lo + r.IntN(p.Focal.Hi*p.Base.Hi-p.Focal.Lo*p.Base.Lo+1)
	for k := range far {
		d := min(p.Near+far[k]+r.IntN(2), p.Far)
		n, left := power/d, r.IntN(7)-3
		if r.IntN(9) == 0 {
			n += r.IntN(9) - 4
		}
		t := api.Thing{
			Left:  place(around(r, left+n, r.IntN(2)), around(r, y[k], r.IntN(2))),
			Right: place(around(r, left, r.IntN(2)), around(r, y[k], r.IntN(3))),
		}
		if r.IntN(3) == 0 {
			t.Far = d
		}
		p.Things = append(p.Things, t)
	}
	return p
}

// small returns a glacier for which all truths can be gone through.
func small(r *rand.Rand) api.Glacier {
	many, kind := r.IntN(6), r.IntN(4)
	far, y := make([]int, many), make([]int, many)
	for k := range far {
		far[k], y[k] = r.IntN(60), r.IntN(12)-6
	}
	first := r.IntN(1000)
	g := api.Glacier{First: smallPair(r, kind, far, y), FirstDay: first, SecondDay: first + 1 + r.IntN(1000)}
	for k := range far {
		far[k], y[k] = max(0, far[k]-r.IntN(3)*r.IntN(20)), y[k]+r.IntN(3)/2
	}
	if r.IntN(3) == 0 {
		kind = r.IntN(4)
	}
	g.Second = smallPair(r, kind, far, y)
	return g
}

// hasTruths returns whether both pairs of a glacier have a truth.
func hasTruths(g api.Glacier) bool {
	_, one := pair.Power(g.First)
	_, two := pair.Power(g.Second)
	return one == api.OK && two == api.OK
}

// Each result is what all truths tell, one by one: its ends are reached, and nothing is beyond them.
func TestAgainstAllTruths(t *testing.T) {
	r := rand.New(rand.NewPCG(61, 62))
	seen := map[string]int{}
	for range 1500 {
		g := small(r)
		if !hasTruths(g) {
			for name, got := range everything(g, 0, 0, 0) {
				if len(g.First.Things) > 0 || !withThing(name) {
					expect(t, name, got, failed(api.ErrNone))
				}
			}
			continue
		}
		all := findTruths(g)
		expect(t, "Stays", stays(g), all.stays())
		expect(t, "Fastest", fastest(g), all.fastest())
		for _, even := range []int{0, 1, r.IntN(20), r.IntN(200)} {
			expect(t, "Alike", alike(g, even), all.alike(even))
		}
		for k := range g.First.Things {
			expect(t, "Moved", moved(g, k), all.moved(k))
			expect(t, "Heights", heights(g, k), all.heights(k))
			expect(t, "Sank", sank(g, k), all.sank(k))
			expect(t, "Rate", rate(g, k), all.rate(k))
			for _, far := range []int{0, 1900 + r.IntN(150), 2000 + r.IntN(60)} {
				expect(t, "Arrives", arrives(g, k, far), all.arrives(k, far))
			}
			count(seen, all, k)
		}
		if t.Failed() {
			t.Fatalf("the glacier is %v", g)
		}
	}
	for _, what := range kinds() {
		if seen[what] < 10 {
			t.Errorf("just %d things: %s", seen[what], what)
		}
	}
}

func kinds() []string {
	return []string{"not seen", "surely stays", "can stay", "cannot stay, but has a height that it had", "moved", "arrives, or not", "arrives", "does not arrive"}
}

// count counts things of which something else is told.
func count(seen map[string]int, all truths, k int) {
	told := all.stays()
	moved, sank := all.moved(k), all.sank(k)
	day := all.arrives(k, 1990)
	zero := func(s api.Span) bool { return s.Lo <= 0 && 0 <= s.Hi }
	for n, is := range []bool{
		moved.e != api.OK,
		told.numbers[0]>>k&1 != 0,
		(told.numbers[1]&^told.numbers[0])>>k&1 != 0,
		moved.e == api.OK && told.numbers[1]>>k&1 == 0 && zero(moved.spans[0]) && zero(sank.spans[0]),
		moved.e == api.OK && !zero(moved.spans[0]),
		day.e == api.OK && day.numbers[1] == api.NoDay,
		day.e == api.OK && day.numbers[1] != api.NoDay,
		day.e == api.ErrNone,
	} {
		if is {
			seen[kinds()[n]]++
		}
	}
}

// The order of the things makes no difference but for their numbers.
func TestOrder(t *testing.T) {
	r := rand.New(rand.NewPCG(63, 64))
	for range 500 {
		g := small(r)
		turned := g
		turned.First.Things, turned.Second.Things = slices.Clone(g.First.Things), slices.Clone(g.Second.Things)
		slices.Reverse(turned.First.Things)
		slices.Reverse(turned.Second.Things)
		last := len(g.First.Things) - 1
		for k := range g.First.Things {
			got := everything(turned, last-k, 9, 1990)
			for name, want := range everything(g, k, 9, 1990) {
				if withThing(name) {
					expect(t, name+", turned round", got[name], want)
				}
			}
		}
		expectTurned(t, "Stays", stays(turned), stays(g), last)
		expectTurned(t, "Fastest", fastest(turned), fastest(g), last)
		one, two := alike(turned, 9), alike(g, 9)
		if one.e != two.e || bits.OnesCount(uint(one.numbers[0])) != bits.OnesCount(uint(two.numbers[0])) {
			t.Errorf("Alike, turned round: %v, want as many as of %v", one, two)
		}
	}
}

// expectTurned compares sets of things that are numbered from the last one on.
func expectTurned(t *testing.T, what string, got, want outcome, last int) {
	t.Helper()
	for n := range got.numbers {
		turned := 0
		for k := range last + 1 {
			turned |= got.numbers[n] >> k & 1 << (last - k)
		}
		got.numbers[n] = turned
	}
	expect(t, what+", turned round", got, want)
}
