package bar_test

import (
	"cmp"
	"math/rand/v2"
	"slices"
	"testing"

	"pairworks/api"
)

// shots returns the slots of a plan, from left to right, and whether the number is a plan.
func shots(b api.Bar, number int) ([]int, bool) {
	var list []int
	for slot := range b.Slots {
		if number>>slot%2 == 0 {
			continue
		}
		if b.Broken>>slot%2 == 1 {
			return nil, false
		}
		list = append(list, slot)
	}
	return list, len(list) <= b.Most
}

// view is two slots by which a plan takes a scene, and how many slots of it lie between.
type view struct{ left, right, between int }

// views returns all slots by which a plan takes a scene.
func views(b api.Bar, list []int, s api.Scene) []view {
	var all []view
	for j := range list {
		for i := range j {
			base := b.Pitch * (list[j] - list[i])
			if s.Least <= base && base <= s.Most && j-i-1 <= s.Calm {
				all = append(all, view{list[i], list[j], j - i - 1})
			}
		}
	}
	return all
}

// bestView returns the outcome of Best, by sorting all slots by which a plan takes a scene.
func bestView(b api.Bar, list []int, s api.Scene) outcome {
	all := views(b, list, s)
	if len(all) == 0 {
		return failed(api.ErrNone)
	}
	slices.SortFunc(all, func(v, w view) int {
		return cmp.Or(v.between-w.between, (w.right-w.left)-(v.right-v.left), v.left-w.left)
	})
	return fine(all[0].left, all[0].right)
}

// planned is a plan, how many slots it has, and the scenes that it takes.
type planned struct{ number, slots, scenes, many int }

// allPlans returns all plans, by going through all numbers.
func allPlans(b api.Bar) []planned {
	var all []planned
	for number := range 1 << b.Slots {
		list, is := shots(b, number)
		if !is {
			continue
		}
		p := planned{number: number, slots: len(list)}
		for k, s := range b.Scenes {
			if len(views(b, list, s)) > 0 {
				p.scenes |= 1 << k
				p.many++
			}
		}
		all = append(all, p)
	}
	return all
}

// full returns those plans that take all scenes: those with fewer slots first, of several the least number.
func full(b api.Bar, all []planned) []planned {
	var list []planned
	for _, p := range all {
		if p.many == len(b.Scenes) {
			list = append(list, p)
		}
	}
	slices.SortFunc(list, func(p, q planned) int { return cmp.Or(p.slots-q.slots, p.number-q.number) })
	return list
}

// neededBy returns the outcome of Needed; there is a plan that takes all.
func neededBy(list []planned) outcome {
	every, some := -1, 0
	for _, p := range list {
		if p.slots == list[0].slots {
			every &= p.number
			some |= p.number
		}
	}
	return fine(every, some)
}

func mostOf(all []planned) outcome {
	p := slices.MinFunc(all, func(p, q planned) int {
		return cmp.Or(q.many-p.many, p.slots-q.slots, p.number-q.number)
	})
	return fine(p.number, p.scenes)
}

// whyNot returns the outcome of Why; there is no plan that takes all.
func whyNot(b api.Bar, all []planned) outcome {
	taken := func(scenes int) bool {
		return slices.ContainsFunc(all, func(p planned) bool { return p.scenes&scenes == scenes })
	}
	for first := range b.Scenes {
		if !taken(1 << first) {
			return failed(api.ErrRefuse, api.BarOne, first, 0)
		}
	}
	for pair := range len(b.Scenes) * len(b.Scenes) {
		first, second := pair/len(b.Scenes), pair%len(b.Scenes)
		if first < second && !taken(1<<first|1<<second) {
			return failed(api.ErrRefuse, api.BarTwo, first, second)
		}
	}
	return failed(api.ErrRefuse, api.BarAll, 0, 0)
}

// anyBar returns a bar with at most so many slots.
func anyBar(r *rand.Rand, atMost int) api.Bar {
	b := api.Bar{Slots: 1 + r.IntN(atMost), Pitch: 1 + r.IntN(12), Most: r.IntN(8)}
	if r.IntN(4) == 0 {
		b.Most = r.IntN(api.MaxBar + 1)
	}
	if r.IntN(2) == 0 {
		b.Broken = r.IntN(1<<b.Slots) & r.IntN(1<<b.Slots)
	}
	for range r.IntN(6) {
		least := max(0, b.Pitch*r.IntN(b.Slots)+r.IntN(5)-2)
		s := scene(least, least+r.IntN(2*b.Pitch), r.IntN(4))
		if r.IntN(5) == 0 {
			s.Calm = r.IntN(api.MaxBar + 1)
		}
		b.Scenes = append(b.Scenes, s)
	}
	return b
}

// expectTrue compares what is told of a bar with what a search through all numbers finds; it returns what is told of all plans.
func expectTrue(t *testing.T, b api.Bar) outcome {
	t.Helper()
	all := allPlans(b)
	list := full(b, all)
	expect(t, "Count", count(b), fine(len(list)))
	expect(t, "Most", theMost(b), mostOf(all))
	reason := fine()
	if len(list) > 0 {
		expect(t, "Fewest", fewest(b), fine(list[0].number))
		expect(t, "Needed", needed(b), neededBy(list))
	} else {
		reason = whyNot(b, all)
		expect(t, "Fewest", fewest(b), failed(api.ErrRefuse))
		expect(t, "Needed", needed(b), failed(api.ErrRefuse))
	}
	expect(t, "Why", why(b), reason)
	if t.Failed() {
		t.Fatalf("of %+v", b)
	}
	return reason
}

func TestAgainstASearch(t *testing.T) {
	r := rand.New(rand.NewPCG(41, 42))
	known := map[int]int{} // how often each reason was told
	for range 8000 {
		known[expectTrue(t, anyBar(r, 8)).numbers[0]]++
	}
	for reason := range api.BarAll + 1 {
		if known[reason] < 20 {
			t.Errorf("the reason %d was told %d times only", reason, known[reason])
		}
	}
}

func TestLongBarsAgainstASearch(t *testing.T) {
	r := rand.New(rand.NewPCG(43, 44))
	for range 3 {
		b := anyBar(r, 1)
		b.Slots, b.Most, b.Pitch = api.MaxBar, 5+r.IntN(5), 10
		b.Scenes = []api.Scene{scene(10+10*r.IntN(4), 60, 0), scene(70+10*r.IntN(3), 100, r.IntN(3)), scene(110, 110+10*r.IntN(4), 1)}
		expectTrue(t, b)
	}
}

func TestPlansAgainstASearch(t *testing.T) {
	r := rand.New(rand.NewPCG(45, 46))
	for range 3000 {
		b := anyBar(r, 10)
		number := r.IntN(2 << b.Slots)
		list, is := shots(b, number)
		want := 0
		for k, s := range b.Scenes {
			o := bestView(b, list, s)
			if o.e == api.OK {
				want |= 1 << k
			}
			if !is || number >= 1<<b.Slots {
				o = failed(api.ErrRange)
			}
			expect(t, "Best", best(b, number, k), o)
		}
		o := fine(want)
		if !is || number >= 1<<b.Slots {
			o = failed(api.ErrRange)
		}
		expect(t, "Taken", taken(b, number), o)
		if t.Failed() {
			t.Fatalf("of the plan %b of %+v", number, b)
		}
	}
}
