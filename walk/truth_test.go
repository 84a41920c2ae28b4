package walk_test

import (
	"cmp"
	"math/rand/v2"
	"slices"
	"testing"

	"pairworks/api"
)

// anySpan returns a span that begins below a bound and has some numbers more at most.
func anySpan(r *rand.Rand, below, more int) api.Span {
	lo := r.IntN(below)
	return span(lo, lo+r.IntN(more+1))
}

// anyTour returns at most so many views, all of whose hours of light are within so many minutes after the first dawn that can be.
func anyTour(r *rand.Rand, most, far, more int) api.Tour {
	base := 0
	if r.IntN(2) == 0 {
		base = api.MaxMinute - far
	}
	t := plain(base+r.IntN(far/4+1), r.IntN(most+1))
	for a := range t.From {
		t.From[a], t.Stay[a] = anySpan(r, far/4, more), anySpan(r, far/8, more)
		lo := base + r.IntN(far/2+1)
		t.Light[a] = span(lo, lo+r.IntN(base+far-lo+1))
		if r.IntN(3) == 0 {
			t.Light[a].Hi = base + far
		}
		for b := range t.From {
			t.Ways[a][b] = anySpan(r, far/4, more)
		}
	}
	return t
}

// orders returns all orders of so many views, in lexicographic order.
func orders(views int) [][]int {
	list := [][]int{nil}
	for k := 0; k < len(list); k++ {
		for view := range views {
			if !slices.Contains(list[k], view) {
				list = append(list, append(slices.Clone(list[k]), view))
			}
		}
	}
	slices.SortFunc(list, slices.Compare[[]int])
	return list
}

// truth is an order in one truth: when one begins at each of its views, and when it is over.
type truth struct {
	begin []int
	over  int
}

// truths returns all truths of an order.
func truths(t api.Tour, order []int) []truth {
	list := []truth{{over: t.Dawn}}
	for k, view := range order {
		way := t.From[view]
		if k > 0 {
			way = t.Ways[order[k-1]][view]
		}
		var longer []truth
		for _, one := range list {
			for minutes := way.Lo; minutes <= way.Hi; minutes++ {
				begin := one.over + minutes
				if begin < t.Light[view].Lo {
					begin = t.Light[view].Lo
				}
				for stay := t.Stay[view].Lo; stay <= t.Stay[view].Hi; stay++ {
					longer = append(longer, truth{append(slices.Clone(one.begin), begin), begin + stay})
				}
			}
		}
		list = longer
	}
	return list
}

// seen is what all truths of an order tell.
type seen struct {
	order  []int
	truths []truth
	walked outcome
	most   int // the greatest minute at which it is over
}

func (s seen) sure() bool { return s.walked.numbers[0] == api.WalkAlways }

// see looks at all truths of an order.
func see(t api.Tour, order []int) seen {
	s := seen{order: order, truths: truths(t, order)}
	walked := 0
	for _, one := range s.truths {
		s.most = max(s.most, one.over)
		inTime := true
		for k, view := range order {
			inTime = inTime && one.begin[k] <= t.Light[view].Hi
		}
		if inTime {
			walked++
		}
	}
	switch walked {
	case 0:
		s.walked = told(api.WalkNever)
	case len(s.truths):
		s.walked = told(api.WalkAlways)
	default:
		s.walked = told(api.WalkPerhaps)
	}
	return s
}

// covers returns the least span with all numbers of truths.
func (s seen) covers(number func(truth) int) api.Span {
	compare := func(a, b truth) int { return cmp.Compare(number(a), number(b)) }
	return span(number(slices.MinFunc(s.truths, compare)), number(slices.MaxFunc(s.truths, compare)))
}

func (s seen) times() outcome {
	o := outcome{over: s.covers(func(w truth) int { return w.over })}
	for k := range s.order {
		o.begin = append(o.begin, s.covers(func(w truth) int { return w.begin[k] }))
	}
	return o
}

func (s seen) late(t api.Tour) outcome {
	for k, view := range s.order {
		missed := 0
		for _, one := range s.truths {
			if one.begin[k] > t.Light[view].Hi {
				missed++
			}
		}
		if missed > 0 {
			return fails(view, missed == len(s.truths))
		}
	}
	return failed(api.ErrNone)
}

// laterBySearch tries each minute up to so many, and the last minute of the day.
func laterBySearch(t api.Tour, order []int, far int) outcome {
	if !see(t, order).sure() {
		return failed(api.ErrNone)
	}
	last := api.MaxMinute - t.Dawn
	best := 0
	for minutes := range last + 1 {
		t := t
		t.Dawn += minutes
		if (minutes <= far || minutes == last) && see(t, order).sure() {
			best = minutes
		}
	}
	return told(best)
}

// all is what all truths of all orders tell, of as many views as there are.
type all struct {
	views int
	seen  []seen // in lexicographic order
}

func seeAll(t api.Tour) all {
	a := all{views: len(t.From)}
	for _, order := range orders(a.views) {
		a.seen = append(a.seen, see(t, order))
	}
	return a
}

func (a all) tours() outcome {
	var o outcome
	for _, s := range a.seen {
		if len(s.order) == a.views && s.sure() {
			o.numbers[0]++
		}
		if len(s.order) == a.views && s.walked.numbers[0] != api.WalkNever {
			o.numbers[1]++
		}
	}
	return o
}

// best returns the sure order of so many views that takes least time at most.
func (a all) best(views int) outcome {
	found, best := false, seen{}
	for _, s := range a.seen {
		if len(s.order) == views && s.sure() && (!found || s.most < best.most) {
			found, best = true, s
		}
	}
	if !found {
		return failed(api.ErrNone)
	}
	return listed(best.order...)
}

func (a all) mostViews() outcome {
	for views := a.views; ; views-- {
		if o := a.best(views); o.e == api.OK {
			return o
		}
	}
}

func (a all) before(one, other int) outcome {
	var many, first int
	for _, s := range a.seen {
		if len(s.order) == a.views && s.sure() {
			many++
			if slices.Index(s.order, one) < slices.Index(s.order, other) {
				first++
			}
		}
	}
	switch {
	case many == 0:
		return failed(api.ErrNone)
	case first == 0:
		return told(api.WalkNever)
	case first == many:
		return told(api.WalkAlways)
	}
	return told(api.WalkPerhaps)
}

// kinds counts the cases of a search.
type kinds map[string]int

func (n kinds) need(t *testing.T, most int, list ...string) {
	t.Helper()
	for _, what := range list {
		if n[what] < most {
			t.Errorf("only %d cases of %q: %v", n[what], what, n)
		}
	}
}

// of names what is told with one of three answers.
func of(what string, o outcome) string {
	if o.e != api.OK {
		return what + " none"
	}
	return what + [...]string{" never", " perhaps", " always"}[o.numbers[0]]
}

// Each result is the one that all truths tell.
func TestTruths(t *testing.T) {
	const far = 24
	r := rand.New(rand.NewPCG(121, 122))
	n := kinds{}
	for range 1500 {
		x := anyTour(r, 3, far, 2)
		a := seeAll(x)
		for _, s := range a.seen {
			expect(t, "Walked", walked(x, s.order...), s.walked)
			expect(t, "Times", times(x, s.order...), s.times())
			expect(t, "Late", late(x, s.order...), s.late(x))
			if len(s.order) > 0 {
				n[of("Walked", s.walked)]++
			}
			if s.late(x).surely && s.late(x).numbers[0] != s.order[0] {
				n["Late, surely, but not at first"]++
			}
		}
		some := a.seen[r.IntN(len(a.seen))].order
		wanted := laterBySearch(x, some, 2*far)
		expect(t, "Later", later(x, some...), wanted)
		if wanted.e == api.OK && wanted.numbers[0] > 0 && len(some) > 1 {
			n["Later"]++
		}
		expect(t, "Tours", tours(x), a.tours())
		expect(t, "Shortest", shortest(x), a.best(a.views))
		expect(t, "Most", most(x), a.mostViews())
		for one := range a.views {
			for other := range a.views {
				if one != other {
					expect(t, "Before", before(x, one, other), a.before(one, other))
					n[of("Before", a.before(one, other))]++
				}
			}
		}
		if t.Failed() {
			t.Fatalf("of %+v", x)
		}
	}
	n.need(t, 200, "Walked never", "Walked perhaps", "Walked always", "Late, surely, but not at first", "Later", "Before none", "Before never", "Before perhaps", "Before always")
}

// extremes returns what the truths with the least minutes alone, and with the greatest ones alone, tell of all orders of many views.
func extremes(t api.Tour) all {
	a := all{views: len(t.From)}
	end := func(list []api.Span, high bool) []api.Span {
		var ends []api.Span
		for _, s := range list {
			if high {
				s.Lo = s.Hi
			}
			ends = append(ends, span(s.Lo, s.Lo))
		}
		return ends
	}
	two := [2]api.Tour{clone(t), clone(t)}
	for k := range two {
		two[k].From, two[k].Stay = end(t.From, k == 1), end(t.Stay, k == 1)
		for view := range t.Ways {
			two[k].Ways[view] = end(t.Ways[view], k == 1)
		}
	}
	for _, order := range orders(a.views) {
		least, greatest := see(two[0], order), see(two[1], order)
		s := seen{order: order, truths: append(least.truths, greatest.truths...), most: greatest.most, walked: told(api.WalkPerhaps)}
		if least.walked.numbers == greatest.walked.numbers {
			s.walked = least.walked
		}
		a.seen = append(a.seen, s)
	}
	return a
}

// Each result for many views is the one that the least and the greatest minutes tell.
func TestManyViews(t *testing.T) {
	r := rand.New(rand.NewPCG(123, 124))
	n := kinds{}
	for round := range 300 {
		x := anyTour(r, 6, []int{60, 200, 700}[round%3], 6)
		a := extremes(x)
		for _, s := range a.seen {
			if r.IntN(20) == 0 {
				expect(t, "Walked", walked(x, s.order...), s.walked)
				expect(t, "Times", times(x, s.order...), s.times())
				expect(t, "Late", late(x, s.order...), s.late(x))
				n[of("Walked", s.walked)]++
			}
		}
		expect(t, "Tours", tours(x), a.tours())
		expect(t, "Shortest", shortest(x), a.best(a.views))
		expect(t, "Most", most(x), a.mostViews())
		if a.views > 3 && shortest(x).e == api.OK {
			n["Shortest"]++
		}
		if views := len(most(x).order); 1 < views && views < a.views {
			n["Most of some"]++
		}
		for one := range a.views {
			for other := range a.views {
				if one != other {
					expect(t, "Before", before(x, one, other), a.before(one, other))
					n[of("Before", a.before(one, other))]++
				}
			}
		}
		if t.Failed() {
			t.Fatalf("of %+v", x)
		}
	}
	n.need(t, 40, "Walked never", "Walked perhaps", "Walked always", "Shortest", "Most of some", "Before none", "Before never", "Before perhaps", "Before always")
}
